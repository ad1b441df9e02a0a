"""What can come while a command is under way that was given at the last of some frames.

An arrival is a pair (spot, depth); the lowest of the frames has depth 0, and
all frames above the last one count as one deeper than it. An order is a triple
(command, breaks, last): the command, its breakpoints, and the depth of the last
of the frames.
"""

from outandover.errors import NotUsable
from outandover.framerows import called_at, ends_in, inside_by_rows, spread, steps_after, steps_of, touched_by_rows
from outandover.kinds import BACK, is_number, is_stepping
from outandover.moves import lands, line_in
from outandover.programparts import misfit_in


def check_given(program, frames, command):
    """Raises NotUsable for frames, or a command, that are not possible."""
    misfit = misfit_in(program, frames)
    if misfit is not None:
        raise NotUsable("frames", misfit)
    if not is_stepping(command):
        raise NotUsable("command", 0)


def order_of(frames, command, breaks):
    """The order of a command that is given at the last of these frames."""
    return (command, breaks, len(frames) - 1)


def coming(book, rows, frames, order):
    """The pair of the arrivals that can come up to the halt, itself included, and of the ends of the lowest frame.

    Calls touch, and end, as the rows of their functions tell; nothing is chosen behind breakpoints.
    """
    last = order[2]
    name = frames[last][0]
    above, lines, ends = coming_first(book, rows, frames[last], order)
    arrivals = [(spot, last + 1) for spot in above] + [((name, index), last) for index in lines]
    for depth in range(last - 1, -1, -1):
        steps = steps_after(book, frames[depth], ends)
        lines = [step for step in steps if is_number(step)]
        ends = [step for step in steps if not is_number(step)]
        arrivals = arrivals + [((frames[depth][0], index), depth) for index in lines]
    return (sorted(set(arrivals)), ends)


def coming_first(book, rows, here, order):
    """The triple of the spots above, and of the lines and the ends of the frame here, that can come up to the halt."""
    command, breaks, _ = order
    name, index = here
    calls = line_in(book, here)[0]
    if command == "step":
        steps = steps_after(book, here, (BACK,)) if "" in calls else []
        above = [(call, 0) for call in calls if call != ""]
    else:
        steps = steps_of(book, ends_in(rows), here)
        above = inside_by_rows(book, rows, here)
    if command == "out":
        lines, ends = spread(book, ends_in(rows), name, steps, breaks)
        called = called_at(book, name, (index,), ()) + called_at(book, name, lines, breaks)
        return (touched_by_rows(rows, called, []), lines, ends)
    lines = [step for step in steps if is_number(step)]
    return (above, lines, [step for step in steps if not is_number(step)])


def halts_at(order, arrival):
    """Whether the command halts at an arrival."""
    command, breaks, last = order
    spot, depth = arrival
    return spot in breaks or lands(command, depth, last)


def halting(order, arrivals):
    """Those of the arrivals at which the command halts."""
    return [arrival for arrival in arrivals if halts_at(order, arrival)]


def passing(order, arrivals):
    """Those of the arrivals at which the command does not halt."""
    return [arrival for arrival in arrivals if not halts_at(order, arrival)]
