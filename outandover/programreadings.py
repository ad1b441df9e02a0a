"""How programs, lines and sets of spots are read."""

from outandover.errors import InvalidText
from outandover.kinds import is_name
from outandover.rowreadings import blocks_of_rows, parts_of_words, spots_of_words
from outandover.words import calls_in, handlers_in, ways_in

WORDS_OF_A_LINE = 3


def program_read(text):
    """The program, by form, that a string writes."""
    return program_of_rows(text.split("\n"), 0)


def program_of_rows(rows, before):
    """The program, by form, that rows write in front of which there are so many."""
    blocks = blocks_of_rows(rows, before, begins_function, function_name, line_of_words)
    return tuple([(name, tuple(lines)) for name, lines in blocks])


def begins_function(words):
    """Whether a row of these words begins a function."""
    return words[0] == "function" and len(words) <= 2


def function_name(words, row):
    """The name in a row that begins a function."""
    if len(words) < 2 or not is_name(words[1]):
        raise InvalidText(row, 1)
    return words[1]


def line_read(text):
    """The line, by form, that a string writes."""
    return line_of_words(text.split(" "), 0)


def line_of_words(words, row):
    """The line that the words of this row write."""
    return parts_of_words(words, row, line_part_in, WORDS_OF_A_LINE)


def line_part_in(words, field):
    """What the word in this field of a line writes, None if it is not possible."""
    word = words[field]
    if field == 0:
        return calls_in(word)
    if field == 1:
        return ways_in(word)
    return handlers_in(word) if field == 2 else None


def spots_read(text):
    """The tuple of spots, by form, that a string writes."""
    return spots_of_words(text.split(" "), 0, 0)
