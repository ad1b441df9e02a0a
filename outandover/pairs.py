"""Where two guides are at once, as one frame sees it.

guides are a guide and another one, a pair is a situation of each. A breach is
an arrival at which the guide stops and the other one does not.
"""

from outandover.situations import behind_arrival, behind_call, behind_end, behind_stop, handed_down


def first_pair(guides, spot):
    """The pair of the first frame of a run, which begins at this spot."""
    return tuple([behind_stop(guide, 0, spot) for guide in guides])


def pair_behind_arrival(guides, pair, spot):
    """Whether the next arrival of the frame, at this spot, is a breach, and the pair behind it."""
    return judged([behind_arrival(guide, situation, spot) for guide, situation in zip(guides, pair)])


def pair_behind_call(guides, pair, spot):
    """Whether the first arrival of a called frame is a breach, and the pair of this frame behind it."""
    return judged([behind_call(guide, situation, spot) for guide, situation in zip(guides, pair)])


def judged(told):
    """Whether it is a breach, and the pair, from what is told of each guide."""
    (stops, own), (other_stops, other) = told
    return (stops and not other_stops, (own, other))


def pair_behind_end(guides, pair):
    """The pair once the frame has ended."""
    return tuple([behind_end(guide, situation) for guide, situation in zip(guides, pair)])


def pair_handed_down(below, pair):
    """The pair of a caller that had the one below, once its called frame has ended in the other one."""
    return (handed_down(below[0], pair[0]), handed_down(below[1], pair[1]))
