"""How many stops the furthest stepper makes."""

from outandover.framerows import least_rows
from outandover.leastsums import greatest_sums, least_sums
from outandover.moves import book_of, first_frames
from outandover.programparts import spots_of
from outandover.safety import commands_at
from outandover.stoprules import ends_behind, stop_rules, stop_spots


def most_stops(program, wished):
    """The greatest number of its stops on a run, None if there is none."""
    sums = greatest_sums(rules_of_stops(program, wished))
    head = ("stops", first_frames(program)[0], ())
    return sums[head][0] if head in sums else None


def fewest_stops(program, wished):
    """The least number of its stops on a run that is over, None if there is none."""
    sums = least_sums(rules_of_stops(program, wished))
    first = first_frames(program)[0]
    return min([sums[head][0] for head in sums if head[:2] == ("stops", first) and head[2] != ()], default=None)


def rules_of_stops(program, wished):
    """The rules of its stops in the program."""
    book = book_of(program)
    return stop_rules(book, least_rows(book, ()), commands_at(program, wished, spots_of(program)))


def greatest_stops(program, wished):
    """The dict of its greatest numbers of stops, for all pairs (spot, end) that have one."""
    sums = greatest_sums(rules_of_stops(program, wished))
    return {(head[1], head[2]): sums[head][0] for head in sums if head[0] == "stops"}


def pairs_of_stops(program, wished):
    """The pairs (spot, end), ascending, of the spots at which it stops on some run, and of each end behind them."""
    book = book_of(program)
    rows = least_rows(book, ())
    spots = stop_spots(book, rows, commands_at(program, wished, spots_of(program)), first_frames(program)[0])
    return [(spot, end) for spot in spots for end in ends_behind(book, rows, spot)]
