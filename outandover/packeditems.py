"""How the items of a packed rest move frames on, without writing lives out.

A tally is a tuple (state, called, length, arrivals, hits): the state behind
some items, the function whose frame began by the last of them, "" if none did,
and of the choices that they stand for how many they are, how many arrivals
come by them, and how many of these are at the spots that are looked for.
"""

from outandover.errors import InvalidPaper
from outandover.kinds import is_number
from outandover.moves import begun, can_choose, chosen, ended, has_arrived


def tally_of_packed(book, packed, spots):
    """The tally of a packed rest, or InvalidPaper for the first fault of its lives and items."""
    return tallies_of_packed(book, packed, spots)[-1]


def tallies_of_packed(book, packed, spots):
    """The tallies of a packed rest, of its beginning and behind each of its items, or InvalidPaper."""
    frames, lives, items = packed
    closed = []
    for k, (name, inner) in enumerate(lives):
        if name not in book:
            raise InvalidPaper("name", k)
        tally = tallies_of_items(book, ((name, 0),), inner, k, (closed, spots))[-1]
        if tally[0][0] != ():
            raise InvalidPaper("open", k)
        closed.append((name, tally))
    return tallies_of_items(book, frames, items, -1, (closed, spots))


def tallies_of_items(book, frames, items, where, known):
    """The tallies along items of these frames; where is what an error says of their place.

    known is the pair of the lives that can stand here, pairs of their function
    and their tally, and of the spots that are looked for.
    """
    closed, spots = known
    tallies = [(begun(frames), "", 0, 0, 0)]
    for i, item in enumerate(items):
        if is_number(item):
            moved = moved_by_choice(book, tallies[-1], item)
        else:
            moved = moved_by_life(book, tallies[-1], item[1], closed)
        if moved is None:
            raise InvalidPaper("item", (where, i))
        tallies.append(with_arrival(moved, spots))
    return tallies


def moved_by_choice(book, tally, choice):
    """The tally behind a choice, but for an arrival by it; None if it cannot be made."""
    state, _, length, arrivals, hits = tally
    if not can_choose(book, state, choice):
        return None
    moved = chosen(book, state, choice)
    called = moved[0][-1][0] if len(moved[0]) > len(state[0]) else ""
    return (moved, called, length + 1, arrivals, hits)


def moved_by_life(book, tally, k, closed):
    """The tally behind life k, but for an arrival by its end; None if it cannot stand here."""
    state, called, length, arrivals, hits = tally
    if k >= len(closed) or closed[k][0] != called:
        return None
    inner = closed[k][1]
    moved = ended(book, state[0], inner[0][2])
    return (moved, "", length + inner[2], arrivals + inner[3], hits + inner[4])


def with_arrival(tally, spots):
    """The tally with the arrival that the last item made, if it made one."""
    state, called, length, arrivals, hits = tally
    if not has_arrived(state):
        return tally
    return (state, called, length, arrivals + 1, hits + 1 if state[0][-1] in spots else hits)
