"""How programs, lines and sets of spots are read."""

from outandover.errors import InvalidText
from outandover.kinds import is_name
from outandover.words import calls_in, handlers_in, spot_in, ways_in

WORDS_OF_A_LINE = 3


def program_read(text):
    """The program, by form, that a string writes."""
    rows = text.split("\n")
    functions = []
    for k, row in enumerate(rows):
        words = row.split(" ")
        begins = begins_function(words)
        # A row that begins a function and one that is a line are possible in turn only.
        if begins and functions != [] and functions[-1][1] == []:
            raise InvalidText(k, 0)
        if not begins and functions == []:
            raise InvalidText(k, 0)
        if begins:
            functions.append((function_name(words, k), []))
        else:
            functions[-1][1].append(line_of_words(words, k))
    if functions[-1][1] == []:
        raise InvalidText(len(rows), 0)
    return tuple([(name, tuple(lines)) for name, lines in functions])


def begins_function(words):
    """Whether a row of these words begins a function."""
    return words[0] == "function" and len(words) <= 2


def function_name(words, row):
    """The name in a row that begins a function."""
    if len(words) < 2 or not is_name(words[1]):
        raise InvalidText(row, 1)
    return words[1]


def line_read(text):
    """The line, by form, that a string writes."""
    return line_of_words(text.split(" "), 0)


def line_of_words(words, row):
    """The line that the words of this row write."""
    parts = []
    for field, word in enumerate(words):
        part = part_in(word, field)
        if part is None:
            raise InvalidText(row, field)
        parts.append(part)
    if len(parts) < WORDS_OF_A_LINE:
        raise InvalidText(row, len(parts))
    return tuple(parts)


def part_in(word, field):
    """What the word in this field of a line writes, None if it is not possible."""
    if field == 0:
        return calls_in(word)
    if field == 1:
        return ways_in(word)
    return handlers_in(word) if field == 2 else None


def spots_read(text):
    """The tuple of spots, by form, that a string writes."""
    words = text.split(" ")
    if words[0] == "-":
        if len(words) > 1:
            raise InvalidText(0, 1)
        return ()
    spots = []
    for field, word in enumerate(words):
        spot = spot_in(word)
        if spot is None:
            raise InvalidText(0, field)
        spots.append(spot)
    return tuple(spots)
