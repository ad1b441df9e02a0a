"""Where steppers stop on a run, and what they pass."""

from outandover.choosing import checked_states
from outandover.errors import NotUsable
from outandover.kinds import is_stepping
from outandover.moves import has_arrived, lands


def stops_of(program, run, stepper):
    """The ascending tuple of the numbers of the arrivals at which the stepper stops."""
    stops = []
    command, given = "", 0
    for number, (many, depth, _) in enumerate(numbered_arrivals(program, run)):
        if stops == [] or lands(command, depth, given):
            stops.append(number)
            command, given = stepper(run[:many]), depth
            if not is_stepping(command):
                raise NotUsable("command", number)
    return tuple(stops)


def passed_by(program, wished, run, stepper):
    """The ascending tuple of the numbers of the arrivals at wished spots at which it does not stop."""
    stops = stops_of(program, run, stepper)
    arrivals = numbered_arrivals(program, run)
    found = [number for number, (_, _, spot) in enumerate(arrivals) if spot in wished and number not in stops]
    return tuple(found)


def numbered_arrivals(program, run):
    """For each arrival of the run how many choices come before it, its depth, and its spot."""
    found = []
    for many, state in enumerate(checked_states(program, run)):
        if has_arrived(state):
            found.append((many, len(state[0]) - 1, state[0][-1]))
    return found
