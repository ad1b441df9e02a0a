"""The checker of safe papers."""

from outandover.errors import InvalidPaper
from outandover.kinds import is_paper
from outandover.moves import arrivals_among, book_of, lands, stands_at
from outandover.packing import states_behind
from outandover.programparts import has_spot
from outandover.safety import check_command, passed_by_rows
from outandover.tablechecker import lets_table, rows_in


def lets_safe(program, wished, spot, command, thing):
    """Whether a safe paper tells that the command is safe, or InvalidPaper for its first fault."""
    check_command(program, spot, command)
    if not is_paper(thing, ("safe", "unsafe")):
        raise InvalidPaper("shape", -1)
    word, told = thing
    if word == "safe":
        check_safe(program, wished, spot, command, told)
    else:
        check_unsafe(program, wished, spot, command, told)
    return word == "safe"


def check_safe(program, wished, spot, command, table):
    """Raises InvalidPaper if it is no closed table by which the command is safe."""
    lets_table(program, table)
    own = [other for other in wished if has_spot(program, other)]
    passed = passed_by_rows(book_of(program), rows_in(table), own, spot, command)
    if passed != []:
        raise InvalidPaper("wished", passed[0])


def check_unsafe(program, wished, spot, command, packed):
    """Raises InvalidPaper if it is no packed rest that shows that the command is not safe."""
    states = states_behind(program, packed)
    if packed[0] != (spot,):
        raise InvalidPaper("frames", -1)
    if len(states) == 1 or not stands_at(states[-1], wished):
        raise InvalidPaper("arrival", -1)
    # Frames inside lives stand above this one, so only arrivals by the items themselves can count for "next".
    if any([lands(command, depth, 0) for depth, _ in arrivals_among(states[1:])]):
        raise InvalidPaper("landed", -1)
