"""Papers that tell how many stops the furthest stepper makes at most."""

from outandover.bounds import greatest_stops, most_stops, pairs_of_stops
from outandover.leastrests import least_in_rest
from outandover.programparts import spots_of
from outandover.reaching import nearest
from outandover.safety import quiet_spots


def stops_paper(program, wished):
    """A stops paper: ("most", rows) if there is a greatest number, otherwise ("ring", run, rest)."""
    if most_stops(program, wished) is None:
        return ring_paper(program, wished)
    numbers = greatest_stops(program, wished)
    return ("most", tuple([pair + (numbers[pair],) for pair in pairs_of_stops(program, wished)]))


def ring_paper(program, wished):
    """A stops paper ("ring", run, rest), None if there is none."""
    quiet = quiet_spots(program, wished)
    for spot in spots_of(program):
        run = nearest(program, spot) if spot not in quiet else None
        rest = least_in_rest(program, spot, (spot,)) if run is not None else None
        if rest is not None:
            return ("ring", run, rest)
    return None
