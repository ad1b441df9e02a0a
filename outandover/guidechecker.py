"""The checker of guides."""

from outandover.errors import InvalidPaper
from outandover.kinds import is_ascending, is_command, is_name_or_empty, is_number, is_spot


def lets_guide(thing):
    """The number of states of a guide, or InvalidPaper for its first fault."""
    if not is_guide(thing):
        raise InvalidPaper("shape", -1)
    for s, state in enumerate(thing):
        for r, rule in enumerate(state):
            if not is_ascending(rule[2]):
                raise InvalidPaper("breaks", (s, r))
            if rule[3] >= len(thing):
                raise InvalidPaper("state", (s, r))
        if state[-1][0] != "":
            raise InvalidPaper("last", s)
    return len(thing)


def is_guide(thing):
    """Whether any value is a tuple, not empty, of states by form."""
    return isinstance(thing, tuple) and len(thing) > 0 and all([is_state(state) for state in thing])


def is_state(thing):
    """Whether any value is a tuple, not empty, of rules by form."""
    return isinstance(thing, tuple) and len(thing) > 0 and all([is_rule(rule) for rule in thing])


def is_rule(thing):
    """Whether any value is a quadruple (where, command, breaks, state) by form."""
    if not isinstance(thing, tuple) or len(thing) != 4:
        return False
    where, command, breaks, state = thing
    if not is_name_or_empty(where) and not is_spot(where):
        return False
    if not isinstance(breaks, tuple) or not all([is_spot(spot) for spot in breaks]):
        return False
    return is_command(command) and is_number(state)
