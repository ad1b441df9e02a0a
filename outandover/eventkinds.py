"""Events and logs, by form: each function accepts any value."""

from outandover.errors import InvalidPaper
from outandover.kinds import is_choices, is_command, is_pair, is_spot, is_spots
from outandover.programchecker import lets_program


def is_event(thing):
    """Whether any value is an event of a session."""
    if is_break(thing):
        return True
    if not is_pair(thing) or not isinstance(thing[0], str):
        return False
    word, told = thing
    if word == "feed":
        return is_choices(told)
    if word == "tell":
        return is_command(told)
    return word == "clear" and is_spot(told) or word == "wish" and is_spots(told)


def is_break(thing):
    """Whether any value is an event ("break", spot, on)."""
    if not isinstance(thing, tuple) or len(thing) != 3:
        return False
    word, spot, on = thing
    return isinstance(word, str) and word == "break" and is_spot(spot) and isinstance(on, bool)


def is_log(thing):
    """Whether any value is a log: the beginning of a session, and events, possible or not."""
    if not isinstance(thing, tuple) or len(thing) == 0:
        return False
    return is_beginning(thing[0]) and all([is_event(event) for event in thing[1:]])


def is_beginning(thing):
    """Whether any value is a triple ("session", program, wished)."""
    if not isinstance(thing, tuple) or len(thing) != 3:
        return False
    word, program, wished = thing
    return isinstance(word, str) and word == "session" and is_accepted(program) and is_spots(wished)


def is_accepted(thing):
    """Whether lets_program accepts any value."""
    try:
        lets_program(thing)
    except InvalidPaper:
        return False
    return True
