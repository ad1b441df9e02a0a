"""Packed rests with the fewest arrivals that stand at a spot."""

from outandover.leastsums import least_sums
from outandover.liferules import call_rules, life_rules, line_rules, path_rules
from outandover.moves import book_of, first_frames
from outandover.packedbodies import packed_by


def sums_of_runs(program):
    """The least sums of the runs that stand at the spots."""
    first = (("at", first_frames(program)[0]), 0, ())
    book = book_of(program)
    return least_sums(life_rules(book, ()) + path_rules(book, ()) + [first])


def least_in_calls(program, spot, targets):
    """Such a rest of one frame, at this spot, that stands at one of the targets in a call of its line."""
    return least_behind(program, spot, call_rules(book_of(program), spot, ()), targets)


def least_in_rest(program, spot, targets):
    """Such a rest of one frame, at this spot, that stands at one of the targets, with arrivals."""
    book = book_of(program)
    return least_behind(program, spot, call_rules(book, spot, ()) + line_rules(book, spot, ()), targets)


def least_behind(program, spot, firsts, targets):
    """Such a rest whose first arrival comes by one of these rules, None if there is none."""
    book = book_of(program)
    sums = least_sums(life_rules(book, ()) + path_rules(book, ()) + firsts)
    found = sorted([(sums[("at", target)][0], target) for target in targets if ("at", target) in sums])
    return packed_by((spot,), sums, ("at", found[0][1])) if found != [] else None
