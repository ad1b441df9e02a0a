"""The checker of reach papers."""

from outandover.errors import InvalidPaper
from outandover.kinds import is_paper
from outandover.moves import first_frames, stands_at
from outandover.packing import state_behind
from outandover.programparts import line_at
from outandover.tablechecker import lets_table, rows_in


def lets_reach(program, spot, thing):
    """Whether a reach paper tells of a run that stands at the spot, or InvalidPaper for its first fault."""
    line_at(program, spot)
    if not is_paper(thing, ("run", "never")):
        raise InvalidPaper("shape", -1)
    word, told = thing
    if word == "run":
        check_run(program, spot, told)
    else:
        check_never(program, spot, told)
    return word == "run"


def check_run(program, spot, packed):
    """Raises InvalidPaper if it is no packed run that stands at the spot."""
    state = state_behind(program, packed)
    if packed[0] != first_frames(program):
        raise InvalidPaper("frames", -1)
    if not stands_at(state, (spot,)):
        raise InvalidPaper("spot", -1)


def check_never(program, spot, table):
    """Raises InvalidPaper if it is no closed table by which no run arrives at the spot."""
    lets_table(program, table)
    name = program[0][0]
    if spot in rows_in(table)[name][2]:
        raise InvalidPaper("spot", -1)
