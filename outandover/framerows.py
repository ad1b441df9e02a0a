"""Where frames can arrive and how they can end, by what calls can end by.

ends is a dict that tells for each function the ends of its frames, rows one
that tells for each the triple of its lines, its ends and the spots that it
touches; a cut is a set of spots behind which nothing is chosen.
"""

from outandover.kinds import BACK, is_number
from outandover.moves import handler_of, line_in


def steps_of(book, ends, spot):
    """What can come next in a frame behind an arrival: indexes of lines, and ends."""
    found = {}
    for call in line_in(book, spot)[0]:
        for step in steps_after(book, spot, (BACK,) if call == "" else ends[call]):
            found[step] = True
    return list(found)


def steps_after(book, spot, over):
    """What can come next in a frame once the call of its line has ended by one of these ends."""
    ways = line_in(book, spot)[1]
    return [step_by(book, spot, way) for end in over for way in (ways if end == BACK else (end,))]


def step_by(book, spot, way):
    """The index or the end to which a way, or a failing call, leads."""
    if is_number(way) or way == BACK:
        return way
    index = handler_of(line_in(book, spot), way[1])
    return way if index is None else index


def spread(book, ends, name, steps, cut):
    """The pair of the sets of lines and of ends that can come in a frame from these steps on."""
    lines = {}
    over = {}
    waiting = list(steps)
    while waiting:
        step = waiting.pop()
        if not is_number(step):
            over[step] = True
        elif step not in lines:
            lines[step] = True
            if (name, step) not in cut:
                waiting.extend(steps_of(book, ends, (name, step)))
    return (tuple(sorted(lines)), tuple(sorted(over)))


def least_ends(book, cut):
    """The ends by which frames of each function can end, the least ones that fit together."""
    ends = {name: () for name in book}
    grown = ends_one_deeper(book, ends, cut)
    while grown != ends:
        ends = grown
        grown = ends_one_deeper(book, ends, cut)
    return ends


def ends_one_deeper(book, ends, cut):
    """The ends of the functions if calls of functions end just by these ends."""
    return {name: spread(book, ends, name, (0,), cut)[1] for name in book}


def called_at(book, name, lines, cut):
    """The names of the functions that a frame calls at some of its lines, if they are not cut."""
    found = {}
    for index in lines:
        if (name, index) not in cut:
            for call in line_in(book, (name, index))[0]:
                found[call] = True
    return [call for call in found if call != ""]


def least_rows(book, cut):
    """For each function the triple of the lines, the ends and the spots that its frames touch."""
    ends = least_ends(book, cut)
    lines = {name: spread(book, ends, name, (0,), cut)[0] for name in book}
    called = {name: called_at(book, name, lines[name], cut) for name in book}
    return {name: (lines[name], ends[name], touched_from([name], called, lines)) for name in book}


def touched_from(names, called, lines):
    """The set of the spots that frames of these functions touch."""
    found = {}
    waiting = list(names)
    while waiting:
        name = waiting.pop()
        if name not in found:
            found[name] = True
            waiting.extend(called[name])
    return tuple(sorted([(name, index) for name in found for index in lines[name]]))


def ends_in(rows):
    """The dict of the ends of the functions by their rows."""
    return {name: rows[name][1] for name in rows}


def rest_by_rows(book, rows, spot, cut):
    """The pair of the spots that a frame touches behind an arrival at the spot, and of its ends then.

    Calls touch, and end, as the rows of their functions tell.
    """
    name, index = spot
    ends = ends_in(rows)
    lines, over = spread(book, ends, name, steps_of(book, ends, spot), cut)
    # The arrival that is looked at is not cut, so its own calls are made in any case.
    called = called_at(book, name, (index,), ()) + called_at(book, name, lines, cut)
    return (touched_by_rows(rows, called, [(name, line) for line in lines]), over)


def inside_by_rows(book, rows, spot):
    """The set of the spots that calls of the line at the spot touch by the rows."""
    return touched_by_rows(rows, called_at(book, spot[0], (spot[1],), ()), [])


def touched_by_rows(rows, names, own):
    """The set of the spots that the rows of these functions touch, and of a frame's own."""
    inside = [spot for name in names for spot in rows[name][2]]
    return tuple(sorted(set(inside + own)))
