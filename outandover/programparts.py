"""Parts of programs."""

from outandover.errors import NotUsable
from outandover.kinds import is_spot


def names_of(program):
    """The names of the functions, in their order."""
    return tuple([name for name, _ in program])


def spots_of(program):
    """The set of all spots of a program."""
    return tuple(sorted([(name, index) for name, lines in program for index in range(len(lines))]))


def has_spot(program, spot):
    """Whether any value is a spot of the program."""
    # Beside its form the value is looked at, because True would be found as 1.
    return is_spot(spot) and spot in spots_of(program)


def lines_of(program, name):
    """The tuple of the lines of a function."""
    for own, lines in program:
        if own == name:
            return lines
    raise NotUsable("name", name)


def line_at(program, spot):
    """One line of a program."""
    if not has_spot(program, spot):
        raise NotUsable("spot", spot)
    name, index = spot
    return lines_of(program, name)[index]


def callers_of(program, name):
    """The set of the spots of all lines that have this name among their calls."""
    lines_of(program, name)
    return tuple([spot for spot in spots_of(program) if name in line_at(program, spot)[0]])


def can_call(program, name):
    """The set of the names of all functions that this one calls, directly or through others."""
    found = {}
    waiting = [lines_of(program, name)]
    while waiting:
        lines = waiting.pop()
        for calls, _, _ in lines:
            for call in calls:
                if call != "" and call not in found:
                    found[call] = True
                    waiting.append(lines_of(program, call))
    return tuple(sorted(found))


def misfit_in(program, frames):
    """The index of the first of any values that cannot stand there among frames, None if all of them can."""
    for k, spot in enumerate(frames):
        if not has_spot(program, spot):
            return k
        if k > 0 and spot[0] not in line_at(program, frames[k - 1])[0]:
            return k
    return None
