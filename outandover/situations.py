"""Where a guide is, as one frame sees it.

A situation of a frame is ("lands", s): the guide stops at the next arrival, in
state s; or one of these words with s and r, rule r of state s being under way:
- "here": given in this frame, it lands at the next arrival of the frame;
- "below": given in this frame, it lands once the frame has ended;
- "never": it never lands;
- "kept": given below, it does not land in this frame.
When a frame has begun above, what its caller has is as it was before the call.
"""

WORDS = {"next": "here", "out": "below", "go": "never"}


def rule_for(guide, state, spot):
    """The index of the rule that applies to a stop at the spot in this state."""
    fitting = [r for r, rule in enumerate(guide[state]) if rule[0] in ("", spot[0], spot)]
    return fitting[0]


def behind_stop(guide, state, spot):
    """The situation behind a stop at the spot in this state."""
    r = rule_for(guide, state, spot)
    _, command, _, following = guide[state][r]
    return ("lands", following) if command == "step" else (WORDS[command], state, r)


def state_to_come(guide, situation):
    """The state in which the next stop is made."""
    if situation[0] == "lands":
        return situation[1]
    _, s, r = situation
    return guide[s][r][3]


def breaks_in(guide, situation):
    """The breakpoints of the command that is under way."""
    if situation[0] == "lands":
        return ()
    _, s, r = situation
    return guide[s][r][2]


def behind_arrival(guide, situation, spot):
    """Whether the guide stops at the next arrival of the frame, at this spot, and the situation behind."""
    if situation[0] not in ("lands", "here") and spot not in breaks_in(guide, situation):
        return (False, situation)
    return (True, behind_stop(guide, state_to_come(guide, situation), spot))


def behind_call(guide, situation, spot):
    """Whether the guide stops at the first arrival of a called frame, and the situation of this frame behind."""
    if situation[0] == "lands" or spot in breaks_in(guide, situation):
        return (True, behind_stop(guide, state_to_come(guide, situation), spot))
    return (False, situation if situation[0] == "never" else ("kept",) + situation[1:])


def behind_end(guide, situation):
    """The situation once the frame has ended."""
    if situation[0] in ("here", "below"):
        return ("lands", state_to_come(guide, situation))
    return situation


def handed_down(below, situation):
    """The situation of a caller that had the one below, once its called frame has ended in the other one."""
    return below if situation[0] == "kept" else situation
