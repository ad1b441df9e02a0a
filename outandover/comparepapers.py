"""Papers that tell whether a guide is within another one."""

from outandover.breaches import least_breach
from outandover.places import Places


def within_paper(program, guide, other):
    """A within paper: ("closed", rows) or ("breach", packed)."""
    places = Places(program, (guide, other))
    if places.has_breach:
        return ("breach", least_breach(program, (guide, other)))
    return ("closed", tuple([row_of_place(places, place) for place in sorted(places.calling)]))


def row_of_place(places, first):
    """The row (name, pair, arrivals, ends) of the frames that begin at this place."""
    arrived = [place for place in places_from(places, first) if place[2] == ()]
    arrivals = tuple(sorted([(index, pair) for _, index, _, pair in arrived]))
    ends = tuple(sorted(list(places.ends[first])))
    return (first[0], first[3], arrivals, ends)


def places_from(places, first):
    """The places of one frame, from the first one on."""
    found = {}
    waiting = [first]
    while waiting:
        place = waiting.pop()
        if place not in found:
            found[place] = True
            waiting.extend(list(places.leading[place]))
    return list(found)
