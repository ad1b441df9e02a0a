"""Guides compared on all programs, by their free programs."""

from outandover.comparing import breach, is_within
from outandover.kinds import BACK, LETTERS


def free_programs(guide, other):
    """The tuple of the free programs of two guides, ascending by the names of their first functions."""
    named = named_in(guide) + named_in(other)
    known = [name for name, _ in named]
    fresh = [letter for letter in LETTERS if letter not in known]
    names = sorted(set(known + fresh[:1]))
    function_lines = free_lines(names, max([index for _, index in named], default=0) + 2)
    programs = []
    for first in names:
        order = [first] + [name for name in names if name != first]
        programs.append(tuple([(name, function_lines) for name in order]))
    return tuple(programs)


def named_in(guide):
    """The names that a guide names, with an index each, 0 for a name alone."""
    found = []
    for state in guide:
        for where, _, breaks, _ in state:
            found.extend(list(breaks))
            if isinstance(where, tuple):
                found.append(where)
            elif where != "":
                found.append((where, 0))
    return found


def free_lines(names, many):
    """The lines, so many, of each function of a free program."""
    calls = ("",) + tuple(names)
    ways = tuple(range(many)) + (BACK,)
    return ((calls, ways, ()),) * many


def is_within_everywhere(guide, other):
    """Whether guide is within other on all programs."""
    for program in free_programs(guide, other):
        if not is_within(program, guide, other):
            return False
    return True


def are_alike_everywhere(guide, other):
    """Whether the guides are alike on all programs."""
    return is_within_everywhere(guide, other) and is_within_everywhere(other, guide)


def breach_everywhere(guide, other):
    """The first free program, by its index, with a breach, and that breach; None if guide is within other on all."""
    for k, program in enumerate(free_programs(guide, other)):
        packed = breach(program, guide, other)
        if packed is not None:
            return (k, packed)
    return None
