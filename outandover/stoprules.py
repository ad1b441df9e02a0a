"""Rules of how many stops the furthest stepper makes.

They are rules of the module leastsums. Their heads are
- ("stops", spot, end): from a stop at the spot, which counts, to the end of its
  frame by end; for the end () to anywhere in a rest of this frame alone.
- ("by", spot, step): the stops of the calls of the spot's line that lead to what
  comes next in its frame, the index of a line, or an end.
"""

from outandover.framerows import ends_in, rest_by_rows, steps_after, steps_of
from outandover.kinds import BACK, is_number
from outandover.liferules import ends_named, own_spots
from outandover.moves import line_in


def stop_rules(book, rows, commands):
    """The rules of all stops; commands are the furthest ones."""
    rules = []
    for spot in commands:
        if commands[spot] == "out":
            rules.extend([(("stops", spot, end), 1, ()) for end in ends_behind(book, rows, spot)])
        else:
            rules.extend(by_rules(book, rows, spot, commands[spot]))
            rules.extend(end_rules(book, spot))
            rules.extend(open_rules(book, spot, commands[spot]))
    return rules


def ends_behind(book, rows, spot):
    """The end (), and those by which a frame can end behind an arrival at the spot."""
    return ((),) + rest_by_rows(book, rows, spot, ())[1]


def by_rules(book, rows, spot, command):
    """The rules of the stops in the calls of one line."""
    ends = ends_in(rows)
    if command == "next":
        return [(("by", spot, step), 0, ()) for step in steps_of(book, ends, spot)]
    rules = []
    for call in line_in(book, spot)[0]:
        if call == "":
            rules.extend([(("by", spot, step), 0, ()) for step in steps_after(book, spot, (BACK,))])
        for end in ends[call] if call != "" else ():
            inside = (("stops", (call, 0), end),)
            rules.extend([(("by", spot, step), 0, inside) for step in steps_after(book, spot, (end,))])
    return rules


def end_rules(book, spot):
    """The rules of the stops from one spot to the ends of its frame."""
    rules = []
    for end in ends_named(book):
        rules.append((("stops", spot, end), 1, (("by", spot, end),)))
        for index, target in own_spots(book, spot):
            rules.append((("stops", spot, end), 1, (("by", spot, index), ("stops", target, end))))
    return rules


def open_rules(book, spot, command):
    """The rules of the stops from one spot to anywhere."""
    head = ("stops", spot, ())
    rules = [(head, 1, ())]
    for index, target in own_spots(book, spot):
        rules.append((head, 1, (("by", spot, index), ("stops", target, ()))))
    for call in line_in(book, spot)[0] if command == "step" else ():
        if call != "":
            rules.append((head, 1, (("stops", (call, 0), ()),)))
    return rules


def stop_spots(book, rows, commands, first):
    """The set of the spots at which the furthest stepper stops on some run."""
    found = {}
    waiting = [first]
    while waiting:
        spot = waiting.pop()
        if spot not in found:
            found[spot] = True
            waiting.extend(stops_behind(book, rows, spot, commands[spot]))
    return tuple(sorted(found))


def stops_behind(book, rows, spot, command):
    """The spots of the next stops behind one, in its frame and in those that it calls.

    Those of the frames below come behind the calls in their lines.
    """
    if command == "out":
        return []
    called = [call for call in line_in(book, spot)[0] if call != "" and command == "step"]
    steps = steps_of(book, ends_in(rows), spot)
    return [(call, 0) for call in called] + [(spot[0], step) for step in steps if is_number(step)]
