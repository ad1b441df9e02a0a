"""Kinds of values, by form alone: each function accepts any value."""

LETTERS = "abcdefghijklmnopqrstuvwxyz"
LONGEST_NAME = 8
COMMANDS = ("step", "next", "out", "go")
STEPPING = ("step", "next", "out")
BACK = ("back",)


def is_integer(thing):
    """An int that is not a bool."""
    return isinstance(thing, int) and not isinstance(thing, bool)


def is_number(thing):
    """An integer that is at least 0."""
    return is_integer(thing) and thing >= 0


def is_name(thing):
    """A string of one to eight lowercase letters."""
    if not isinstance(thing, str) or not 1 <= len(thing) <= LONGEST_NAME:
        return False
    return all([letter in LETTERS for letter in thing])


def is_name_or_empty(thing):
    """A name, or the empty string."""
    return is_name(thing) or isinstance(thing, str) and thing == ""


def is_pair(thing):
    """A tuple of two."""
    return isinstance(thing, tuple) and len(thing) == 2


def is_spot(thing):
    """A pair of a name and a number."""
    return is_pair(thing) and is_name(thing[0]) and is_number(thing[1])


def is_end(thing):
    """The end ("back",), or a pair of "fail" and a name."""
    if is_pair(thing):
        return isinstance(thing[0], str) and thing[0] == "fail" and is_name(thing[1])
    return isinstance(thing, tuple) and thing == BACK


def is_way(thing):
    """A number or an end."""
    return is_number(thing) or is_end(thing)


def is_handler(thing):
    """A pair of a kind, or "" for every kind, and a number."""
    return is_pair(thing) and is_name_or_empty(thing[0]) and is_number(thing[1])


def is_line(thing):
    """A triple of tuples: of calls, of ways and of handlers, by form."""
    if not isinstance(thing, tuple) or len(thing) != 3:
        return False
    if not all([isinstance(part, tuple) for part in thing]):
        return False
    calls, ways, handlers = thing
    return (
        all([is_name_or_empty(call) for call in calls])
        and all([is_way(way) for way in ways])
        and all([is_handler(handler) for handler in handlers])
    )


def is_function(thing):
    """A pair of a name and a tuple, not empty, of lines by form."""
    if not is_pair(thing) or not is_name(thing[0]):
        return False
    lines = thing[1]
    return isinstance(lines, tuple) and len(lines) > 0 and all([is_line(line) for line in lines])


def is_program(thing):
    """A tuple, not empty, of functions by form."""
    return isinstance(thing, tuple) and len(thing) > 0 and all([is_function(function) for function in thing])


def is_choices(thing):
    """A tuple of numbers."""
    return isinstance(thing, tuple) and all([is_number(choice) for choice in thing])


def is_command(thing):
    """One of the four commands."""
    return isinstance(thing, str) and thing in COMMANDS


def is_stepping(thing):
    """One of the commands that steppers give."""
    return isinstance(thing, str) and thing in STEPPING


def is_spots(thing):
    """A set of spots by form."""
    return isinstance(thing, tuple) and all([is_spot(spot) for spot in thing]) and is_ascending(thing)


def is_numbers(thing):
    """A set of numbers."""
    return is_choices(thing) and is_ascending(thing)


def is_ends(thing):
    """A set of ends."""
    return isinstance(thing, tuple) and all([is_end(end) for end in thing]) and is_ascending(thing)


def is_paper(thing, words):
    """A pair of one of these words and any value."""
    return is_pair(thing) and isinstance(thing[0], str) and thing[0] in words


def is_ascending(things):
    """Whether a tuple of values that can be ordered is ascending, without duplicates."""
    return things == tuple(sorted(set(things)))
