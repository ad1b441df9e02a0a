"""Where a guide stops on a run."""

from outandover.choosing import checked_states
from outandover.errors import NotUsable
from outandover.guiding import first_standing, standing_at_end, standing_behind
from outandover.moves import book_of, first_frames, has_arrived
from outandover.packedchecker import lets_packed


def guide_stops(program, guide, run):
    """The ascending tuple of the numbers of the arrivals at which the guide stops."""
    checked_states(program, run)
    book = book_of(program)
    standing = first_standing(program, guide)
    arrivals, stops = 1, [0]
    for choice in run:
        standing = standing_behind(book, guide, standing, choice)
        if standing[3]:
            stops.append(arrivals)
        if has_arrived(standing[0]):
            arrivals = arrivals + 1
    return tuple(stops)


def stops_in(program, guide, packed):
    """How many stops the guide makes in the run for which packed stands."""
    lets_packed(program, packed)
    if packed[0] != first_frames(program):
        raise NotUsable("frames", -1)
    return standing_at_end(program, guide, packed)[2]
