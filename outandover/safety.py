"""Which commands are safe: no wished spot is arrived at before they land."""

from outandover.errors import NotUsable
from outandover.framerows import inside_by_rows, least_rows, rest_by_rows
from outandover.kinds import STEPPING, is_stepping
from outandover.leastrests import least_in_calls, least_in_rest
from outandover.moves import book_of
from outandover.programparts import line_at, spots_of


def is_safe(program, wished, spot, command):
    """Whether the command is safe at the spot."""
    check_command(program, spot, command)
    book = book_of(program)
    return is_safe_by_rows(book, least_rows(book, ()), wished, spot, command)


def furthest(program, wished, spot):
    """The furthest command at the spot."""
    line_at(program, spot)
    return commands_at(program, wished, (spot,))[spot]


def quiet_spots(program, wished):
    """The set of the spots of the program at which "out" is safe."""
    spots = spots_of(program)
    commands = commands_at(program, wished, spots)
    return tuple([spot for spot in spots if commands[spot] == "out"])


def unsafe_rest(program, wished, spot, command):
    """A packed rest with the fewest arrivals that shows that the command is not safe, None if it is."""
    check_command(program, spot, command)
    if command == "step":
        return None
    if command == "next":
        return least_in_calls(program, spot, wished)
    return least_in_rest(program, spot, wished)


def check_command(program, spot, command):
    """Raises NotUsable for a spot that the program does not have, or no command of a stepper."""
    line_at(program, spot)
    if not is_stepping(command):
        raise NotUsable("command", 0)


def commands_at(program, wished, spots):
    """The dict of the furthest commands at these spots."""
    book = book_of(program)
    rows = least_rows(book, ())
    found = {}
    for spot in spots:
        # Of the commands in their order, "step", "next" and "out", the last safe one goes furthest.
        safe = [command for command in STEPPING if is_safe_by_rows(book, rows, wished, spot, command)]
        found[spot] = safe[-1]
    return found


def is_safe_by_rows(book, rows, wished, spot, command):
    """Whether a command is safe by the rows of the functions."""
    return passed_by_rows(book, rows, wished, spot, command) == []


def passed_by_rows(book, rows, wished, spot, command):
    """The wished spots, in their order, that by the rows can come before the command lands."""
    touched = ()
    if command == "next":
        touched = inside_by_rows(book, rows, spot)
    if command == "out":
        touched = rest_by_rows(book, rows, spot, ())[0]
    return [other for other in wished if other in touched]
