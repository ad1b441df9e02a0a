"""How events and logs are read."""

from outandover.errors import InvalidText
from outandover.programreadings import program_of_rows
from outandover.rowreadings import parts_of_words, spots_of_words
from outandover.words import choices_in, command_in, number_in, on_in, spot_in

# How many words write an event; one that begins with wish has as many as there are spots.
MANY_WORDS = {"feed": 2, "tell": 2, "clear": 2, "break": 3}
FEWEST_ROWS = 2


def read_event(text):
    """The event that a string writes."""
    return event_of_words(text.split(" "), 0)


def event_of_words(words, line):
    """The event that the words of this line write."""
    if words[0] == "wish":
        return ("wish", spots_of_words(words, line, 1))
    return parts_of_words(words, line, event_part_in, MANY_WORDS.get(words[0], 1))


def event_part_in(words, field):
    """What the word in this field of an event writes, None if it is not possible."""
    kind, word = words[0], words[field]
    if field == 0:
        return word if word in MANY_WORDS else None
    if field >= MANY_WORDS[kind]:
        return None
    if field == 2:
        return on_in(word)
    if kind == "feed":
        return choices_in(word)
    return command_in(word) if kind == "tell" else spot_in(word)


def read_log(lines):
    """The log that a list of lines writes."""
    if lines == []:
        raise InvalidText(0, 0)
    many, wished = beginning_of_words(lines[0].split(" "))
    rows = lines[1:1 + many]
    if rows == []:
        raise InvalidText(1, 0)
    program = program_of_rows(rows, 1)
    if len(rows) < many:
        raise InvalidText(len(lines), 0)
    events = [event_of_words(line.split(" "), k) for k, line in enumerate(lines) if k > many]
    return (("session", program, wished),) + tuple(events)


def beginning_of_words(words):
    """The number of rows and the wished spots that the words of the first line write."""
    if words[0] != "session":
        raise InvalidText(0, 0)
    many = number_in(words[1]) if len(words) > 1 else None
    if many is None or many < FEWEST_ROWS:
        raise InvalidText(0, 1)
    return (many, spots_of_words(words, 0, 2))
