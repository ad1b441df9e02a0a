"""What functions can touch, where their frames can arrive, and how these can end."""

from outandover.framerows import called_at, least_rows, spread, steps_of
from outandover.moves import book_of
from outandover.programparts import line_at


def least_table(program, *, cut=()):
    """The rows (name, lines, ends, touched) of all functions, ascending."""
    rows = least_rows(book_of(program), cut)
    return tuple([(name, rows[name][0], rows[name][1], rows[name][2]) for name in sorted(rows)])


def rest_of(program, spot, *, cut=()):
    """The pair (touched, ends) of a frame behind an arrival at the spot."""
    line_at(program, spot)
    book = book_of(program)
    rows = least_rows(book, cut)
    ends = {name: rows[name][1] for name in rows}
    name, index = spot
    lines, over = spread(book, ends, name, steps_of(book, ends, spot), cut)
    # The arrival that is looked at is not cut, so its own calls are made in any case.
    called = called_at(book, name, (index,), ()) + called_at(book, name, lines, cut)
    own = [(name, line) for line in lines]
    return (spots_in(rows, called, own), over)


def inside_of(program, spot, *, cut=()):
    """The set of the spots that can be touched in a call of the line at the spot."""
    line_at(program, spot)
    book = book_of(program)
    name, index = spot
    return spots_in(least_rows(book, cut), called_at(book, name, (index,), ()), [])


def spots_in(rows, names, own):
    """The set of the spots that the rows of these functions touch, and of a frame's own."""
    inside = [spot for name in names for spot in rows[name][2]]
    return tuple(sorted(set(inside + own)))
