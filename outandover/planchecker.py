"""The checker of plan papers."""

from outandover.errors import InvalidPaper
from outandover.kinds import is_paper
from outandover.moves import book_of, has_arrived
from outandover.packedchecker import lets_packed
from outandover.packeditems import tallies_of_packed
from outandover.plants import early_spots, goes_on, missed_spots, stopping_above, word_of_fault
from outandover.tablechecker import lets_table, rows_in
from outandover.underway import check_given, coming, order_of


def lets_plan(program, frames, command, plan, thing, *, breaks=()):
    """Whether a plan paper tells that the plan is right, or InvalidPaper for its first fault."""
    check_given(program, frames, command)
    if not is_paper(thing, ("right", "misses", "early")):
        raise InvalidPaper("shape", -1)
    word, told = thing
    order = order_of(frames, command, breaks)
    if word == "right":
        check_right(program, frames, order, plan, told)
    else:
        check_fault(program, frames, order, plan, thing)
    return word == "right"


def check_right(program, frames, order, plan, table):
    """Raises InvalidPaper if it is no closed table by which the plan is right."""
    lets_table(program, table, cut=order[1])
    arrivals = coming(book_of(program), rows_in(table), frames, order)[0]
    missed = missed_spots(order, plan, arrivals)
    if missed != []:
        raise InvalidPaper("misses", missed[0])
    early = early_spots(order, plan, arrivals)
    if early != []:
        raise InvalidPaper("early", early[0])


def check_fault(program, frames, order, plan, paper):
    """Raises InvalidPaper if it is no fault of the plan of this word."""
    word, packed = paper
    lets_packed(program, packed)
    if packed[0] != frames:
        raise InvalidPaper("frames", -1)
    looked = stopping_above(order, plan)
    tallies = tallies_of_packed(book_of(program), packed, looked)
    if len(tallies) == 1 or not has_arrived(tallies[-1][0]):
        raise InvalidPaper("arrival", -1)
    arrivals = [arrival_in(tally[0]) for tally in tallies[1:] if has_arrived(tally[0])]
    # A life that is no frame above the last one stands behind an arrival at which every command halts.
    if not all([goes_on(order, plan, arrival) for arrival in arrivals[:-1]]) or hits_in_lives(tallies, looked):
        raise InvalidPaper("before", -1)
    if word_of_fault(order, plan, arrivals[-1]) != word:
        raise InvalidPaper("last", -1)


def arrival_in(state):
    """The arrival by which a state came about."""
    frames = state[0]
    return (frames[-1], len(frames) - 1)


def hits_in_lives(tallies, looked):
    """Whether an arrival inside a life is at one of the spots that the tallies count."""
    states = [tally[0] for tally in tallies[1:]]
    own = [state for state in states if has_arrived(state) and state[0][-1] in looked]
    return tallies[-1][4] > len(own)
