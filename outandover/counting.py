"""How many ways there are to go on for so many choices, without going any.

A place is a pair (spot, behind): where one frame stands, and whether its next
choice is the index of a way. A frame is led to a place, or to an end of its
own. counts[place] has one pair for each number of choices from there: how many
tuples of just so many choices leave this frame going on, whatever stands above
it, and a dict that tells for each end how many of them end it so, by the last
of them.
"""

from outandover.kinds import BACK, is_number
from outandover.moves import handler_of, line_in


def counts_of(book, most):
    """The counts of each place, for each number of choices up to the most."""
    spots = [(name, index) for name in book for index in range(len(book[name]))]
    counts = {(spot, behind): [(1, {})] for spot in spots for behind in (False, True)}
    for many in range(1, most + 1):
        found = {}
        for spot in spots:
            found[(spot, True)] = counted_ways(book, counts, spot, many)
            found[(spot, False)] = counted_calls(book, counts, spot, many)
        for place in found:
            counts[place].append(found[place])
    return counts


def counted_ways(book, counts, spot, many):
    """The pair of the place behind the call of this spot."""
    rows = []
    for way in line_in(book, spot)[1]:
        rows.append((1, row_of(counts, way_led(book, spot, way), many - 1)))
    return sum_of_rows(rows)


def counted_calls(book, counts, spot, many):
    """The pair of the place of an arrival at this spot."""
    calls = line_in(book, spot)[0]
    rows = []
    if "" in calls:
        rows.append((1, counts[(spot, True)][many - 1]))
    inside = [counts[((call, 0), False)] for call in calls if call != ""]
    for used in range(many):
        going, ended = sum_of_rows([(1, rows_inside[used]) for rows_inside in inside])
        if used == many - 1:
            rows.append((1, (going, {})))
        for end, times in ended.items():
            rows.append((times, row_of(counts, led_by(book, spot, end), many - 1 - used)))
    return sum_of_rows(rows)


def way_led(book, spot, way):
    """What a frame is led to by a way that it takes at this spot."""
    if is_number(way):
        return ((spot[0], way), False)
    return way if way == BACK else led_by(book, spot, way)


def led_by(book, spot, end):
    """What a frame is led to when its call at this spot ends so."""
    if end == BACK:
        return (spot, True)
    index = handler_of(line_in(book, spot), end[1])
    return ((spot[0], index), False) if index is not None else end


def is_place(led):
    """Whether what a frame is led to is a place, and no end."""
    return isinstance(led[0], tuple)


def row_of(counts, led, many):
    """The pair of what a frame is led to, for so many choices."""
    if is_place(led):
        return counts[led][many]
    return (0, {led: 1} if many == 0 else {})


def sum_of_rows(rows):
    """The sum of pairs, each of them so many times."""
    ended = {}
    for times, row in rows:
        for end, many in row[1].items():
            ended[end] = ended.get(end, 0) + times * many
    return (sum([times * row[0] for times, row in rows]), ended)


def can_last(book, counts, state, many):
    """Whether so many choices can be made behind a state, and the run is not over before."""
    frames, behind, _ = state
    if frames == ():
        return many == 0
    leads = [((frames[-1], behind), many)]
    for depth in range(len(frames) - 1, 0, -1):
        if any_goes_on(counts, leads):
            return True
        lefts = lefts_at_ends(counts, leads)
        leads = [(led_by(book, frames[depth - 1], end), lefts[end]) for end in lefts]
    lefts = lefts_at_ends(counts, leads)
    return any_goes_on(counts, leads) or any([lefts[end] == 0 for end in lefts])


def any_goes_on(counts, leads):
    """Whether one of these leads, pairs with the choices that are left, can leave its frame going on."""
    return any([row_of(counts, led, left)[0] > 0 for led, left in leads])


def lefts_at_ends(counts, leads):
    """For each end of the frame the fewest choices that can be left then."""
    lefts = {}
    for led, left in leads:
        for used in range(left + 1):
            for end in row_of(counts, led, used)[1]:
                # The fewer are left, the easier it is to last for them.
                lefts[end] = min(left - used, lefts.get(end, left))
    return lefts
