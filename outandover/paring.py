"""Breakpoints of a guide that change nothing on a program."""

from outandover.framerows import steps_after
from outandover.kinds import is_number
from outandover.moves import line_in
from outandover.places import Places
from outandover.situations import breaks_in


def needless(program, guide):
    """The ascending tuple of the triples (state, rule, spot) of all needless breakpoints."""
    needed = needed_breaks(program, guide)
    return tuple([triple for triple in all_breaks(guide) if triple not in needed])


def pared(program, guide):
    """The guide without all of its needless breakpoints."""
    needed = needed_breaks(program, guide)
    states = []
    for s, state in enumerate(guide):
        rules = []
        for r, (where, command, breaks, following) in enumerate(state):
            left = tuple([spot for spot in breaks if (s, r, spot) in needed])
            rules.append((where, command, left, following))
        states.append(tuple(rules))
    return tuple(states)


def all_breaks(guide):
    """All triples (state, rule, spot) of a guide, ascending."""
    return [(s, r, spot) for s, state in enumerate(guide) for r, rule in enumerate(state) for spot in rule[2]]


def needed_breaks(program, guide):
    """A dict of the triples of those at which the guide stops, on some run, where its command does not land.

    What such a stop is for does not depend on the others: without it the first of them on a run would be missing.
    """
    places = Places(program, (guide, guide))
    needed = {}
    for place in places.ends:
        situation = place[3][0]
        for spot in spots_not_landed_at(places.book, place):
            if spot in breaks_in(guide, situation):
                needed[situation[1:] + (spot,)] = True
    return needed


def spots_not_landed_at(book, place):
    """The spots of the arrivals that come next behind a place, if the command that is under way does not land there."""
    name, index, over, (situation, _) = place
    if over == ():
        return [(call, 0) for call in line_in(book, (name, index))[0] if call != ""]
    if situation[0] == "here":
        return []
    return [(name, step) for step in steps_after(book, (name, index), (over,)) if is_number(step)]
