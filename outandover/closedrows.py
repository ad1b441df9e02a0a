"""Rows of within papers: their form, and whether they are closed.

A row is a tuple (name, pair, arrivals, ends). What the rows are looked up in is
a dict of the ends of each row, by its name and its pair.
"""

from outandover.errors import InvalidPaper
from outandover.framerows import steps_after
from outandover.kinds import BACK, is_ascending, is_end, is_name, is_number, is_pair
from outandover.moves import book_of, first_frames, line_in
from outandover.pairs import first_pair, pair_behind_arrival, pair_behind_call, pair_behind_end, pair_handed_down

WORDS_OF_RULES = ("here", "below", "never", "kept")


def is_pair_row(thing):
    """Whether any value is a row by form."""
    if not isinstance(thing, tuple) or len(thing) != 4:
        return False
    name, pair, arrivals, ends = thing
    if not is_name(name) or not is_situations(pair):
        return False
    return is_set_of_arrivals(arrivals) and is_set_of_ends(ends)


def is_set_of_arrivals(thing):
    """Whether any value is a set of pairs of a number and of a pair of situations."""
    if not isinstance(thing, tuple):
        return False
    fits = [is_pair(part) and is_number(part[0]) and is_situations(part[1]) for part in thing]
    return all(fits) and is_ascending(thing)


def is_set_of_ends(thing):
    """Whether any value is a set of pairs of an end and of a pair of situations."""
    if not isinstance(thing, tuple):
        return False
    fits = [is_pair(part) and is_end(part[0]) and is_situations(part[1]) for part in thing]
    return all(fits) and is_ascending(thing)


def is_situations(thing):
    """Whether any value is a pair of situations, with any numbers."""
    return is_pair(thing) and is_situation(thing[0]) and is_situation(thing[1])


def is_situation(thing):
    """Whether any value is a situation, with any numbers."""
    if not isinstance(thing, tuple) or len(thing) < 2 or not all([is_number(number) for number in thing[1:]]):
        return False
    word = thing[0]
    if not isinstance(word, str):
        return False
    return len(thing) == 2 if word == "lands" else word in WORDS_OF_RULES and len(thing) == 3


def check_rows(program, guides, rows):
    """Raises InvalidPaper for the first fault of rows that are such by form."""
    book = book_of(program)
    for k, row in enumerate(rows):
        if k > 0 and not row[:2] > rows[k - 1][:2] or not has_all(book, guides, row):
            raise InvalidPaper("row", k)
    ends = {(name, pair): over for name, pair, _, over in rows}
    spot = first_frames(program)[0]
    if (spot[0], first_pair(guides, spot)) not in ends:
        raise InvalidPaper("first", -1)
    for k, row in enumerate(rows):
        check_row(book, guides, ends, k, row)


def has_all(book, guides, row):
    """Whether all that a row names exists: its function, its lines, and its states and rules."""
    name, pair, arrivals, ends = row
    if name not in book or any([index >= len(book[name]) for index, _ in arrivals]):
        return False
    pairs = [pair] + [part[1] for part in arrivals + ends]
    return all([exists(guide, situation) for part in pairs for guide, situation in zip(guides, part)])


def exists(guide, situation):
    """Whether a guide has the state, and the rule, of a situation."""
    if situation[1] >= len(guide):
        return False
    return situation[0] == "lands" or situation[2] < len(guide[situation[1]])


def check_row(book, guides, ends, k, row):
    """Raises InvalidPaper for the first that row k lacks."""
    name, pair, arrivals, over = row
    has_arrival = {part: True for part in arrivals}
    has_end = {part: True for part in over}
    if (0, pair) not in has_arrival:
        raise InvalidPaper("begin", k)
    for i, (index, own) in enumerate(arrivals):
        if not calls_are_told(book, guides, ends, (name, index), own):
            raise InvalidPaper("entered", (k, i))
        steps = steps_told(book, guides, ends, (name, index), own)
        if not arrivals_are_told(guides, name, steps, has_arrival):
            raise InvalidPaper("arrivals", (k, i))
        if any([(step, pair_behind_end(guides, then)) not in has_end for step, then in steps if not is_number(step)]):
            raise InvalidPaper("ends", (k, i))


def called_pairs(book, guides, spot, pair):
    """For each function that the line at a spot calls whether its first arrival is a breach, and its name and pair."""
    calls = [call for call in line_in(book, spot)[0] if call != ""]
    told = [pair_behind_call(guides, pair, (call, 0)) for call in calls]
    return [(breach, (call, inner)) for call, (breach, inner) in zip(calls, told)]


def calls_are_told(book, guides, ends, spot, pair):
    """Whether the line at a spot can be called from without a breach, and with rows for all that it calls."""
    return all([not breach and key in ends for breach, key in called_pairs(book, guides, spot, pair)])


def steps_told(book, guides, ends, spot, pair):
    """What comes next in a frame: pairs of a step, the index of a line or an end, and of the pair in front of it."""
    over = {}
    if "" in line_in(book, spot)[0]:
        over[(BACK, pair)] = True
    for _, key in called_pairs(book, guides, spot, pair):
        for end, then in ends[key]:
            over[(end, pair_handed_down(pair, then))] = True
    return [(step, then) for end, then in over for step in steps_after(book, spot, (end,))]


def arrivals_are_told(guides, name, steps, has_arrival):
    """Whether no next arrival of a frame is a breach, and what is behind each of them is told."""
    for step, then in steps:
        if is_number(step):
            breach, following = pair_behind_arrival(guides, then, (name, step))
            if breach or (step, following) not in has_arrival:
                return False
    return True
