"""Where a command can halt that is given at the last of some frames."""

from outandover.framerows import least_rows
from outandover.moves import book_of
from outandover.underway import check_given, coming, halting, order_of, passing


def halts_of(program, frames, command, *, breaks=()):
    """The set of the pairs (spot, depth) at which it can halt, with depth -1 at breakpoints."""
    arrivals = coming_in(program, frames, command, breaks)[0]
    halts = halting(order_of(frames, command, breaks), arrivals)
    return tuple(sorted(set([(spot, -1 if spot in breaks else depth) for spot, depth in halts])))


def on_the_way(program, frames, command, *, breaks=()):
    """The pair of the lines of the last frame, and of the spots above it, that can come where it does not halt."""
    arrivals = coming_in(program, frames, command, breaks)[0]
    order = order_of(frames, command, breaks)
    lines = [spot[1] for spot, depth in passing(order, arrivals) if depth == order[2]]
    spots = [spot for spot, depth in passing(order, arrivals) if depth > order[2]]
    return (tuple(sorted(lines)), tuple(sorted(spots)))


def may_end(program, frames, command, *, breaks=()):
    """Whether some rest is over in which the command does not halt."""
    return len(coming_in(program, frames, command, breaks)[1]) > 0


def coming_in(program, frames, command, breaks):
    """What can come, or NotUsable for frames, or a command, that are not possible."""
    check_given(program, frames, command)
    book = book_of(program)
    return coming(book, least_rows(book, breaks), frames, order_of(frames, command, breaks))
