"""What functions can touch, where their frames can arrive, and how these can end."""

from outandover.framerows import inside_by_rows, least_rows, rest_by_rows
from outandover.moves import book_of
from outandover.programparts import line_at


def least_table(program, *, cut=()):
    """The rows (name, lines, ends, touched) of all functions, ascending."""
    rows = least_rows(book_of(program), cut)
    return tuple([(name, rows[name][0], rows[name][1], rows[name][2]) for name in sorted(rows)])


def rest_of(program, spot, *, cut=()):
    """The pair (touched, ends) of a frame behind an arrival at the spot."""
    line_at(program, spot)
    book = book_of(program)
    return rest_by_rows(book, least_rows(book, cut), spot, cut)


def inside_of(program, spot, *, cut=()):
    """The set of the spots that can be touched in a call of the line at the spot."""
    line_at(program, spot)
    book = book_of(program)
    return inside_by_rows(book, least_rows(book, cut), spot)
