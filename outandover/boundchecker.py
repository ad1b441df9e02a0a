"""The checker of stops papers."""

from outandover.bounds import greatest_stops, pairs_of_stops
from outandover.errors import InvalidPaper
from outandover.kinds import is_end, is_number, is_paper, is_spot
from outandover.moves import first_frames, has_arrived, stands_at
from outandover.packing import state_behind
from outandover.safety import quiet_spots


def lets_stops(program, wished, thing):
    """The greatest number of stops that a stops paper tells, None for a ring, or InvalidPaper for its first fault."""
    if is_most(thing):
        return checked_most(program, wished, thing[1])
    if not isinstance(thing, tuple) or len(thing) != 3 or not is_paper(thing[:2], ("ring",)):
        raise InvalidPaper("shape", -1)
    check_ring(program, wished, thing[1], thing[2])
    return None


def is_most(thing):
    """Whether any value is a pair of "most" and a tuple of rows by form."""
    return is_paper(thing, ("most",)) and isinstance(thing[1], tuple) and all([is_row(row) for row in thing[1]])


def is_row(thing):
    """Whether any value is a triple of a spot, () or an end, and a number."""
    if not isinstance(thing, tuple) or len(thing) != 3:
        return False
    spot, end, number = thing
    return is_spot(spot) and (isinstance(end, tuple) and end == () or is_end(end)) and is_number(number)


def checked_most(program, wished, rows):
    """The greatest number of stops on a run, or InvalidPaper for the first fault of the rows."""
    if [row[:2] for row in rows] != pairs_of_stops(program, wished):
        raise InvalidPaper("rows", -1)
    numbers = greatest_stops(program, wished)
    for k, row in enumerate(rows):
        if numbers.get(row[:2], None) != row[2]:
            raise InvalidPaper("number", k)
    return numbers[(first_frames(program)[0], ())]


def check_ring(program, wished, run, rest):
    """Raises InvalidPaper if the run does not lead to a ring at which the furthest stepper stops again and again."""
    state = state_behind(program, run)
    if run[0] != first_frames(program):
        raise InvalidPaper("frames", 0)
    if not has_arrived(state):
        raise InvalidPaper("arrival", 0)
    spot = state[0][-1]
    state = state_behind(program, rest)
    if rest[0] != (spot,):
        raise InvalidPaper("frames", 1)
    if rest[2] == () or not stands_at(state, (spot,)):
        raise InvalidPaper("arrival", 1)
    if spot in quiet_spots(program, wished):
        raise InvalidPaper("quiet", -1)
