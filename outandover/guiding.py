"""How a guide follows a run, also one that is packed.

A standing is a tuple (state, situations, stops, halted): the state of the
frames, the situation of each of them, how often the guide has stopped, and
whether it does at the arrival by which the state came about. Once the lowest
frame has ended, its situation is the one that is left.
"""

from outandover.kinds import is_number
from outandover.moves import begun, book_of, chosen, ended, first_frames, has_arrived
from outandover.situations import behind_arrival, behind_call, behind_end, behind_stop, handed_down


def first_standing(program, guide):
    """The standing at arrival 0 of a run."""
    frames = first_frames(program)
    return (begun(frames), (behind_stop(guide, 0, frames[0]),), 1, True)


def standing_behind(book, guide, standing, choice):
    """The standing behind a choice that can be made."""
    state = chosen(book, standing[0], choice)
    situations = standing[1]
    if len(state[0]) > len(situations):
        told = behind_call(guide, situations[-1], state[0][-1])
        return standing_told(state, situations, standing[2], told)
    return settled(guide, state, situations, standing[2])


def settled(guide, state, situations, stops):
    """The standing once some frames have ended, perhaps none, and the one below has perhaps arrived."""
    left = situations
    while len(left) > len(state[0]):
        over = behind_end(guide, left[-1])
        if len(left) == 1:
            return (state, (over,), stops, False)
        left = left[:-2] + (handed_down(left[-2], over),)
    if not has_arrived(state):
        return (state, left, stops, False)
    return standing_told(state, left[:-1], stops, behind_arrival(guide, left[-1], state[0][-1]))


def standing_told(state, below, stops, told):
    """The standing behind an arrival of which this is told, the situations of the frames below being these."""
    halted, situation = told
    return (state, below + (situation,), stops + 1 if halted else stops, halted)


def standing_at_end(program, guide, packed):
    """The standing behind a packed run."""
    _, lives, items = packed
    book = book_of(program)
    known = {}
    # What is under way: the run, and above it the lives whose ends it waits for, each in one situation.
    under_way = [(None, items, first_standing(program, guide))]
    while True:
        key, items, standing = under_way.pop()
        standing, items, wanted = gone_on(book, guide, standing, items, known)
        if wanted is not None:
            name, inner = lives[wanted[0]]
            under_way.append((key, items, standing))
            under_way.append((wanted, inner, (begun(((name, 0),)), (wanted[1],), 0, False)))
        elif key is not None:
            known[key] = standing
        else:
            return standing


def gone_on(book, guide, standing, items, known):
    """The standing behind as many items as are known, the items left, and the key of the life that is not known.

    A key is the pair of the number of a life and of a situation behind its first arrival.
    """
    for at, item in enumerate(items):
        key = None if is_number(item) else (item[1], standing[1][-1])
        if key is None:
            standing = standing_behind(book, guide, standing, item)
        elif key in known:
            standing = standing_behind_life(book, guide, standing, known[key])
        else:
            return (standing, items[at:], key)
    return (standing, (), None)


def standing_behind_life(book, guide, standing, inner):
    """The standing behind a life, from the one at its own end."""
    state, situations, stops, _ = standing
    moved = ended(book, state[0], inner[0][2])
    return settled(guide, moved, situations[:-1] + inner[1], stops + inner[2])
