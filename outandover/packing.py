"""Packed rests: written out, counted, and joined."""

from outandover.choosing import options_after
from outandover.errors import NotUsable
from outandover.kinds import is_number
from outandover.moves import book_of, first_frames
from outandover.packedchecker import lets_packed
from outandover.packeditems import tallies_of_packed, tally_of_packed
from outandover.programparts import has_spot

MOST_WRITTEN = 400


def written_out(program, packed):
    """The rest for which a packed rest stands, if it has at most four hundred choices."""
    length = tally_of(program, packed, ())[2]
    if length > MOST_WRITTEN:
        raise NotUsable("long", length)
    _, lives, items = packed
    waiting = list(items[::-1])
    choices = []
    while waiting:
        item = waiting.pop()
        if is_number(item):
            choices.append(item)
        else:
            waiting.extend(lives[item[1]][1][::-1])
    return tuple(choices)


def packed_of(program, run):
    """A packed run that stands for the run."""
    options_after(program, run)
    return (first_frames(program), (), run)


def arrivals_in(program, packed, *, at=()):
    """How many arrivals the rest has, at this spot if one is given."""
    tally = tally_of(program, packed, (at,))
    if at == ():
        return tally[3]
    if not has_spot(program, at):
        raise NotUsable("spot", at)
    return tally[4]


def frames_behind(program, packed):
    """The spots at which the frames stand behind the rest, () if it is over."""
    return state_behind(program, packed)[0]


def end_behind(program, packed):
    """The end by which the lowest frame has ended, () if the rest is not over."""
    return state_behind(program, packed)[2]


def joined(program, packed, other):
    """A packed rest that stands for the choices of packed, followed by those of other."""
    state = state_behind(program, packed)
    lets_packed(program, other)
    frames, behind, _ = state
    # The frames of a rest are never (), so one that is over does not fit either.
    if behind or frames != other[0]:
        raise NotUsable("frames", -1)
    lives, added = packed[1], other[1]
    moved = tuple([(name, items_moved(items, len(lives))) for name, items in added])
    return (packed[0], lives + moved, packed[2] + items_moved(other[2], len(lives)))


def items_moved(items, by):
    """The items with the numbers of their lives moved on."""
    return tuple([item if is_number(item) else ("life", item[1] + by) for item in items])


def state_behind(program, packed):
    """The state behind any value, or the errors of lets_packed."""
    return tally_of(program, packed, ())[0]


def tally_of(program, packed, spots):
    """The tally of any value, or the errors of lets_packed."""
    lets_packed(program, packed)
    return tally_of_packed(book_of(program), packed, spots)


def states_behind(program, packed):
    """The states of any value, at its beginning and behind each of its items, or the errors of lets_packed."""
    lets_packed(program, packed)
    return [tally[0] for tally in tallies_of_packed(book_of(program), packed, ())]
