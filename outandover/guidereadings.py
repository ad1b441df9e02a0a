"""How guides are read."""

from outandover.rowreadings import blocks_of_rows, parts_of_words
from outandover.words import breaks_in_word, command_in, number_in, where_in

WORDS_OF_A_RULE = 4


def guide_read(text):
    """The guide, by form, that a string writes."""
    blocks = blocks_of_rows(text.split("\n"), 0, begins_state, state_word, rule_of_words)
    return tuple([tuple(rules) for _, rules in blocks])


def begins_state(words):
    """Whether a row of these words begins a state."""
    return words == ["state"]


def state_word(words, row):
    """What a row that begins a state tells, which is no more than that."""
    return words[0]


def rule_of_words(words, row):
    """The rule that the words of this row write."""
    return parts_of_words(words, row, rule_part_in, WORDS_OF_A_RULE)


def rule_part_in(words, field):
    """What the word in this field of a rule writes, None if it is not possible."""
    word = words[field]
    if field == 0:
        return where_in(word)
    if field == 1:
        return command_in(word)
    if field == 2:
        return breaks_in_word(word)
    return number_in(word) if field == 3 else None
