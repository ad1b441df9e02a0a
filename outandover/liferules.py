"""Rules of the fewest arrivals by which frames end, or arrive somewhere.

They are rules of the module leastsums; what stands in a body are choices, and
heads that stand for more of them:
- ("life", name, end): from line 0 of a frame of this function to its end by end.
- ("rest", spot, end): from an arrival at the spot to the end of the frame by end.
- ("step", spot, step): from an arrival at the spot to what comes next in its
  frame, the index of a line, or an end. The arrival at this line is not counted.
- ("at", spot): from the beginning to an arrival at the spot, in whatever frame.
What is avoided, a set of spots, is not arrived at in the first three, and not
gone on from in the last one.
"""

from outandover.framerows import step_by
from outandover.kinds import BACK, is_number
from outandover.moves import line_in


def life_rules(book, avoided):
    """The rules of all lives, rests and steps."""
    ends = ends_named(book)
    rules = [(("life", name, end), 0, (("rest", (name, 0), end),)) for name in book for end in ends]
    for name in book:
        for index in range(len(book[name])):
            rules.extend(step_rules(book, (name, index), ends, avoided))
            rules.extend(rest_rules(book, (name, index), ends, avoided))
    return rules


def ends_named(book):
    """All ends that stand among the ways of some line."""
    found = {BACK: True}
    for name in book:
        for _, ways, _ in book[name]:
            for way in ways:
                if not is_number(way):
                    found[way] = True
    return list(found)


def step_rules(book, spot, ends, avoided):
    """The rules of the steps from one spot, by each call and each way."""
    calls, ways, _ = line_in(book, spot)
    rules = []
    for i, call in enumerate(calls):
        if call == "":
            rules.extend([(step_head(book, spot, way), 0, (i, w)) for w, way in enumerate(ways)])
        elif (call, 0) not in avoided:
            back = ("life", call, BACK)
            rules.extend([(step_head(book, spot, way), 1, (i, back, w)) for w, way in enumerate(ways)])
            fails = [end for end in ends if end != BACK]
            rules.extend([(step_head(book, spot, end), 1, (i, ("life", call, end))) for end in fails])
    return rules


def step_head(book, spot, way):
    """The head of the step to which a way, or a failing call, leads."""
    return ("step", spot, step_by(book, spot, way))


def rest_rules(book, spot, ends, avoided):
    """The rules of the rests behind one spot."""
    rules = [(("rest", spot, end), 0, (("step", spot, end),)) for end in ends]
    for index, target in own_spots(book, spot):
        if target not in avoided:
            step = ("step", spot, index)
            rules.extend([(("rest", spot, end), 1, (step, ("rest", target, end))) for end in ends])
    return rules


def own_spots(book, spot):
    """Pairs of the index and the spot of each line of a spot's function."""
    return [(index, (spot[0], index)) for index in range(len(book[spot[0]]))]


def path_rules(book, avoided):
    """The rules of arrivals behind other ones; there is none yet for the first one."""
    rules = []
    for name in book:
        for _, spot in own_spots(book, (name, 0)):
            if spot not in avoided:
                before = (("at", spot),)
                rules.extend(call_rules(book, spot, before))
                rules.extend(line_rules(book, spot, before))
    return rules


def call_rules(book, spot, before):
    """The rules of the arrivals in the frames that a line calls, behind what comes before."""
    calls = line_in(book, spot)[0]
    return [(("at", (call, 0)), 1, before + (i,)) for i, call in enumerate(calls) if call != ""]


def line_rules(book, spot, before):
    """The rules of the next arrivals of a spot's own frame, behind what comes before."""
    return [(("at", target), 1, before + (("step", spot, index),)) for index, target in own_spots(book, spot)]
