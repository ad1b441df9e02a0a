"""The checker of closed tables."""

from outandover.errors import InvalidPaper
from outandover.framerows import called_at, ends_in, steps_of
from outandover.kinds import is_ends, is_name, is_number, is_numbers, is_spots
from outandover.moves import book_of
from outandover.programparts import names_of


def lets_table(program, thing, *, cut=()):
    """How many distinct spots the rows of a closed table touch, or InvalidPaper for its first fault."""
    if not is_table(thing):
        raise InvalidPaper("shape", -1)
    if [row[0] for row in thing] != sorted(names_of(program)):
        raise InvalidPaper("names", -1)
    book = book_of(program)
    rows = rows_in(thing)
    for k, row in enumerate(thing):
        name, lines = row[0], row[1]
        if 0 not in lines or lines[-1] >= len(book[name]):
            raise InvalidPaper("lines", k)
        for index in lines:
            check_line(book, rows, (name, index), cut)
    return len(set([spot for row in thing for spot in row[3]]))


def is_table(thing):
    """Whether any value is a tuple of rows by form."""
    return isinstance(thing, tuple) and all([is_row(row) for row in thing])


def is_row(thing):
    """Whether any value is a row (name, lines, ends, touched) by form."""
    if not isinstance(thing, tuple) or len(thing) != 4:
        return False
    name, lines, ends, touched = thing
    return is_name(name) and is_numbers(lines) and is_ends(ends) and is_spots(touched)


def rows_in(table):
    """For each function the triple of the lines, the ends and the touched spots that a table tells."""
    return {name: (lines, ends, touched) for name, lines, ends, touched in table}


def check_line(book, rows, spot, cut):
    """Raises InvalidPaper for the first that the row of this line's function lacks of it."""
    name, index = spot
    lines, ends, touched = rows[name]
    if spot not in touched:
        raise InvalidPaper("touched", spot)
    if spot in cut:
        return
    for call in called_at(book, name, (index,), ()):
        if len(set(rows[call][2]) - set(touched)) > 0:
            raise InvalidPaper("inside", spot)
    steps = steps_of(book, ends_in(rows), spot)
    if any([is_number(step) and step not in lines for step in steps]):
        raise InvalidPaper("ways", spot)
    if any([not is_number(step) and step not in ends for step in steps]):
        raise InvalidPaper("ends", spot)
