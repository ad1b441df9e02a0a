"""Runs and rests with the fewest arrivals."""

from outandover.kinds import is_end
from outandover.leastrests import sums_of_runs
from outandover.leastsums import least_sums
from outandover.liferules import life_rules
from outandover.moves import book_of, first_frames
from outandover.packedbodies import packed_by
from outandover.programparts import line_at, lines_of


def nearest(program, spot):
    """A packed run with the fewest arrivals that stands at the spot, None if there is none."""
    line_at(program, spot)
    sums = sums_of_runs(program)
    head = ("at", spot)
    return packed_by(first_frames(program), sums, head) if head in sums else None


def distance(program, spot):
    """The fewest arrivals, without arrival 0, of a run that stands at the spot, None if there is none."""
    line_at(program, spot)
    sums = sums_of_runs(program)
    head = ("at", spot)
    return sums[head][0] if head in sums else None


def nearest_end(program, name, end):
    """A packed rest of a frame of the function that is over by this end, None if there is none."""
    lines_of(program, name)
    if not is_end(end):
        return None
    sums = least_sums(life_rules(book_of(program), ()))
    head = ("rest", (name, 0), end)
    return packed_by(((name, 0),), sums, head) if head in sums else None
