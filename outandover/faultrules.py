"""Rules of the fewest arrivals by which a plan is found to have a fault.

They are rules of the module leastsums, as those of the module liferules, with
three more heads:
- ("own", spot): from the beginning to an arrival of the last of the frames.
- ("below", spot, depth): to an arrival of the frame below it that has this depth.
- ("over", depth, end): to the end of the frame of this depth.
What stands above an arrival is gone on from only if neither the command halts
there nor a plant is hit.
"""

from outandover.framerows import step_by
from outandover.kinds import BACK, is_number
from outandover.liferules import call_rules, ends_named, life_rules, own_spots, path_rules
from outandover.moves import line_in
from outandover.plants import goes_on, stopping_above


def fault_rules(book, frames, order, plan):
    """The rules of all arrivals up to the first one at which the command halts or a plant is hit."""
    command, _, last = order
    avoided = stopping_above(order, plan)
    if command == "step":
        avoided = [(name, index) for name in book for index in range(len(book[name]))]
    here = frames[last]
    rules = life_rules(book, avoided) + path_rules(book, avoided) + own_rules(book, here, last, ())
    for _, spot in own_spots(book, here):
        if goes_on(order, plan, (spot, last)):
            rules.extend(own_rules(book, spot, last, (("own", spot),)))
    for depth in range(last):
        rules.extend(below_rules(book, frames[depth], depth))
    return rules


def own_rules(book, spot, last, before):
    """The rules of what comes next behind an arrival of the last of the frames, and behind what comes before it."""
    rules = call_rules(book, spot, before)
    for index, target in own_spots(book, spot):
        rules.append((("own", target), 1, before + (("step", spot, index),)))
    for end in ends_named(book):
        rules.append((("over", last, end), 0, before + (("step", spot, end),)))
    return rules


def below_rules(book, spot, depth):
    """The rules of what comes next in a frame once the one above it has ended."""
    rules = []
    for w, way in enumerate(line_in(book, spot)[1]):
        rules.append(below_rule(spot, depth, step_by(book, spot, way), (("over", depth + 1, BACK), w)))
    for end in ends_named(book):
        if end != BACK:
            rules.append(below_rule(spot, depth, step_by(book, spot, end), (("over", depth + 1, end),)))
    return rules


def below_rule(spot, depth, step, body):
    """The rule of one step of a frame below the last one."""
    if is_number(step):
        return (("below", (spot[0], step), depth), 1, body)
    return (("over", depth, step), 0, body)


def arrival_of(head, last):
    """The arrival for which a head stands, None if it stands for none."""
    if head[0] == "at":
        return (head[1], last + 1)
    if head[0] == "own":
        return (head[1], last)
    return (head[1], head[2]) if head[0] == "below" else None
