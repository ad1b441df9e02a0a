"""The checker of within papers."""

from outandover.closedrows import check_rows, is_pair_row
from outandover.errors import InvalidPaper
from outandover.guiding import standing_at_end
from outandover.kinds import is_paper
from outandover.moves import first_frames, has_arrived
from outandover.packedchecker import lets_packed


def lets_within(program, guide, other, thing):
    """Whether a within paper tells that guide is within other, or InvalidPaper for its first fault."""
    if not is_within_paper(thing):
        raise InvalidPaper("shape", -1)
    word, told = thing
    if word == "closed":
        check_rows(program, (guide, other), told)
    else:
        check_breach(program, guide, other, told)
    return word == "closed"


def is_within_paper(thing):
    """Whether any value is a within paper by form."""
    if is_paper(thing, ("breach",)):
        return True
    return is_paper(thing, ("closed",)) and isinstance(thing[1], tuple) and all([is_pair_row(row) for row in thing[1]])


def check_breach(program, guide, other, packed):
    """Raises InvalidPaper if it is no packed run to a stop of the guide alone."""
    lets_packed(program, packed)
    if packed[0] != first_frames(program):
        raise InvalidPaper("frames", -1)
    state, _, _, stops = standing_at_end(program, guide, packed)
    if not has_arrived(state):
        raise InvalidPaper("arrival", -1)
    if not stops or standing_at_end(program, other, packed)[3]:
        raise InvalidPaper("stops", -1)
