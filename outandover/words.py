"""What single words write; None for a word that is not possible."""

from outandover.kinds import BACK, is_command, is_name

DIGITS = "0123456789"
MOST_DIGITS = 60


def number_in(word):
    """The number that a word writes."""
    if not 1 <= len(word) <= MOST_DIGITS or not all([digit in DIGITS for digit in word]):
        return None
    if len(word) > 1 and word[0] == "0":
        return None
    return int(word)


def spot_in(word):
    """The spot that a word NAME:INDEX writes."""
    name, _, digits = word.partition(":")
    index = number_in(digits)
    if index is None or not is_name(name):
        return None
    return (name, index)


def call_in(word):
    """The call that a word writes, - for the empty one."""
    if word == "-":
        return ""
    return word if is_name(word) else None


def way_in(word):
    """The way that a word writes: a number, back, or fail:KIND."""
    if word == "back":
        return BACK
    if word.startswith("fail:"):
        kind = word[len("fail:"):]
        return ("fail", kind) if is_name(kind) else None
    return number_in(word)


def handler_in(word):
    """The handler that a word KIND>INDEX writes, with * for every kind."""
    kind, _, digits = word.partition(">")
    index = number_in(digits)
    if index is None or not (kind == "*" or is_name(kind)):
        return None
    return ("" if kind == "*" else kind, index)


def all_or_none(parts):
    """The tuple of the parts, None if one of them is None."""
    return None if any([part is None for part in parts]) else tuple(parts)


def calls_in(word):
    """The calls that a word writes."""
    return all_or_none([call_in(part) for part in word.split(",")])


def ways_in(word):
    """The ways that a word writes."""
    return all_or_none([way_in(part) for part in word.split(",")])


def handlers_in(word):
    """The handlers that a word writes, - for none."""
    if word == "-":
        return ()
    return all_or_none([handler_in(part) for part in word.split(",")])


def choices_in(word):
    """The choices that a word writes, - for none."""
    if word == "-":
        return ()
    return all_or_none([number_in(part) for part in word.split(",")])


def command_in(word):
    """The command that a word writes."""
    return word if is_command(word) else None


def where_in(word):
    """The name or the spot that a word writes, or "" for *."""
    if word == "*":
        return ""
    return word if is_name(word) else spot_in(word)


def breaks_in_word(word):
    """The spots that a word writes, with commas between them, - for none."""
    if word == "-":
        return ()
    return all_or_none([spot_in(part) for part in word.split(",")])


def on_in(word):
    """Whether a word writes on, or off."""
    return word == "on" if word in ("on", "off") else None
