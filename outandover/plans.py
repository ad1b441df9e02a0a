"""Plans of plants: the least one, and faults of any."""

from outandover.faultrules import arrival_of, fault_rules
from outandover.landing import coming_in
from outandover.leastsums import least_sums
from outandover.moves import book_of
from outandover.packedbodies import packed_by
from outandover.plants import early_spots, missed_spots, word_of_fault
from outandover.underway import check_given, halting, order_of, passing


def least_plan(program, frames, command, *, breaks=()):
    """The right plan with the fewest plants, and of these with the fewest looks at the frame."""
    arrivals = coming_in(program, frames, command, breaks)[0]
    order = order_of(frames, command, breaks)
    passed = [spot for spot, _ in passing(order, arrivals)]
    plants = []
    for spot, depth in halting(order, arrivals):
        # Breakpoints are never passed, so that they need no look either.
        plants.append((spot, depth if spot in passed else -1))
    return tuple(sorted(set(plants)))


def is_right(program, frames, command, plan, *, breaks=()):
    """Whether in each rest the first hit is where the command halts, and there is none if it does not halt."""
    arrivals = coming_in(program, frames, command, breaks)[0]
    order = order_of(frames, command, breaks)
    return missed_spots(order, plan, arrivals) == [] and early_spots(order, plan, arrivals) == []


def plan_fault(program, frames, command, plan, *, breaks=()):
    """None if the plan is right, otherwise the pair of a word and of a fault with the fewest arrivals."""
    check_given(program, frames, command)
    order = order_of(frames, command, breaks)
    sums = least_sums(fault_rules(book_of(program), frames, order, plan))
    # The heads stand in the order of their sums, so the first one with a fault has the fewest arrivals.
    for head in sums:
        arrival = arrival_of(head, order[2])
        word = "" if arrival is None else word_of_fault(order, plan, arrival)
        if word != "":
            return (word, packed_by(frames, sums, head))
    return None
