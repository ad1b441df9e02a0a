"""Changes of programs: each returns the changed program."""

from outandover.errors import NotUsable
from outandover.programchecker import lets_program
from outandover.programparts import line_at, lines_of, names_of


def with_line(program, spot, line):
    """The program with this line at a spot of it."""
    line_at(program, spot)
    name, index = spot
    lines = lines_of(program, name)
    changed = lines[:index] + (line,) + lines[index + 1:]
    result = tuple([(own, changed) if own == name else (own, kept) for own, kept in program])
    lets_program(result)
    return result


def with_function(program, name, lines):
    """The program with the function (name, lines) behind all others."""
    if name in names_of(program):
        raise NotUsable("name", name)
    result = program + ((name, lines),)
    lets_program(result)
    return result


def without_function(program, name):
    """The program without this function, which nothing calls any more."""
    lines_of(program, name)
    if name == program[0][0]:
        raise NotUsable("name", name)
    return tuple([
        (own, tuple([line_without(line, name) for line in lines])) for own, lines in program if own != name
    ])


def line_without(line, name):
    """The line without this name among its calls."""
    calls, ways, handlers = line
    left = tuple([call for call in calls if call != name])
    return (left if left != () else ("",), ways, handlers)


def renamed(program, *pairs):
    """The program with other names for some of its functions, given all at once."""
    names = names_of(program)
    given = {}
    for old, new in pairs:
        if old not in names or old in given:
            raise NotUsable("name", old)
        given[old] = new
    changed = [given.get(name, name) for name in names]
    for k, name in enumerate(changed):
        if name in changed[:k]:
            raise NotUsable("name", name)
    return tuple([
        (given.get(name, name), tuple([line_renamed(line, given) for line in lines])) for name, lines in program
    ])


def line_renamed(line, given):
    """The line with the names that are given to its calls, ascending again."""
    calls, ways, handlers = line
    return (tuple(sorted([given.get(call, call) for call in calls])), ways, handlers)
