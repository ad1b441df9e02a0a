"""The checker of programs."""

from outandover.errors import InvalidPaper
from outandover.kinds import is_ascending, is_number, is_program


def lets_program(thing):
    """The number of lines of a program, or InvalidPaper for its first fault."""
    if not is_program(thing):
        raise InvalidPaper("shape", -1)
    names = [name for name, _ in thing]
    for k, name in enumerate(names):
        if name in names[:k]:
            raise InvalidPaper("name", k)
    for name, lines in thing:
        for index, line in enumerate(lines):
            word = line_fault(line, names, len(lines))
            if word != "":
                raise InvalidPaper(word, (name, index))
    return sum([len(lines) for _, lines in thing])


def line_fault(line, names, many):
    """The word of the first fault of a line of a function with so many lines, "" if there is none."""
    calls, ways, handlers = line
    if calls_are_wrong(calls, names):
        return "calls"
    if ways_are_wrong(ways, many):
        return "ways"
    if handlers_are_wrong(handlers, many):
        return "handlers"
    return ""


def calls_are_wrong(calls, names):
    """Whether the calls are no set, or empty, or not all of them are "" or one of the names."""
    return calls == () or not is_ascending(calls) or any([call != "" and call not in names for call in calls])


def ways_are_wrong(ways, many):
    """Whether the ways are empty or not distinct, or one leads to no line."""
    if ways == () or len(set(ways)) < len(ways):
        return True
    return any([is_number(way) and way >= many for way in ways])


def handlers_are_wrong(handlers, many):
    """Whether two handlers have the same kind, or one leads to no line."""
    kinds = [kind for kind, _ in handlers]
    return len(set(kinds)) < len(kinds) or any([index >= many for _, index in handlers])
