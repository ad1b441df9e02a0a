"""What a run is, and what is told of one."""

from outandover.errors import NotUsable
from outandover.moves import arrivals_among, begun, book_of, can_choose, chosen, first_frames, options_at


def states_of(program, run):
    """The states from the beginning on, up to the first choice that cannot be made."""
    book = book_of(program)
    states = [begun(first_frames(program))]
    for choice in run:
        if not can_choose(book, states[-1], choice):
            return states
        states.append(chosen(book, states[-1], choice))
    return states


def checked_states(program, run):
    """The states of a run: one more than it has choices."""
    states = states_of(program, run)
    if len(states) <= len(run):
        raise NotUsable("choice", len(states) - 1)
    return states


def options_after(program, run):
    """How many choices can be made next, 0 if the run is over."""
    states = checked_states(program, run)
    return options_at(book_of(program), states[-1])


def is_run(program, thing):
    """Whether any value is a run of the program."""
    return isinstance(thing, tuple) and len(states_of(program, thing)) > len(thing)


def arrivals_of(program, run):
    """The tuple of all arrivals of the run, pairs (depth, spot)."""
    return arrivals_among(checked_states(program, run))


def frames_after(program, run):
    """The spots at which the frames stand, () if the run is over."""
    return checked_states(program, run)[-1][0]


def is_behind(program, run):
    """Whether the next choice is the index of a way."""
    return checked_states(program, run)[-1][1]


def end_of(program, run):
    """The end by which the first frame has ended, () if the run is not over."""
    return checked_states(program, run)[-1][2]
