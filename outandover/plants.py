"""What is hit by plants, and where a plan does not do what the command does."""

from outandover.underway import halting, halts_at, passing


def is_hit(plan, arrival):
    """Whether an arrival hits a plant of the plan."""
    spot, depth = arrival
    return (spot, -1) in plan or (spot, depth) in plan


def word_of_fault(order, plan, arrival):
    """The word of a fault that stands at this arrival, "" if the plan does there what the command does."""
    halts, hit = halts_at(order, arrival), is_hit(plan, arrival)
    if halts == hit:
        return ""
    return "misses" if halts else "early"


def goes_on(order, plan, arrival):
    """Whether at this arrival neither the command halts nor a plant is hit."""
    return not halts_at(order, arrival) and not is_hit(plan, arrival)


def missed_spots(order, plan, arrivals):
    """The spots, ascending, of those arrivals at which the command halts that hit no plant."""
    return sorted(set([arrival[0] for arrival in halting(order, arrivals) if not is_hit(plan, arrival)]))


def early_spots(order, plan, arrivals):
    """The spots, ascending, of those arrivals at which the command does not halt that hit a plant."""
    return sorted(set([arrival[0] for arrival in passing(order, arrivals) if is_hit(plan, arrival)]))


def stopping_above(order, plan):
    """The spots at which arrivals of frames above the last one halt or hit, for "next" and "out"."""
    return tuple([spot for spot, look in plan if look == -1]) + order[1]
