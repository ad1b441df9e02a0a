"""Guides compared on one program."""

from outandover.breaches import least_breach
from outandover.places import Places


def is_within(program, guide, other):
    """Whether on each run each stop of the guide is one of the other guide."""
    return not Places(program, (guide, other)).has_breach


def breach(program, guide, other):
    """A packed run with the fewest arrivals to a stop of the guide alone, None if there is none."""
    return None if is_within(program, guide, other) else least_breach(program, (guide, other))


def are_alike(program, guide, other):
    """Whether each of the guides is within the other one."""
    return is_within(program, guide, other) and is_within(program, other, guide)
