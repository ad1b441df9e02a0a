"""How frames move on, choice by choice.

A book of a program is the dict of its functions' lines, by name. A state is a
triple (frames, behind, end): the spots at which the frames stand, whether the
next choice is the index of a way, and the end of the lowest frame, () as long
as it has not ended; then there are no frames. States are tuples, so that each
choice makes a new one and an earlier one can be gone on from again.
"""

from outandover.kinds import BACK, is_number


def book_of(program):
    """The book of a program."""
    return {name: lines for name, lines in program}


def begun(frames):
    """The state of frames of which the last one has just arrived at its spot."""
    return (frames, False, ())


def first_frames(program):
    """The frames at the beginning of a run."""
    return ((program[0][0], 0),)


def line_in(book, spot):
    """The line at a spot."""
    name, index = spot
    return book[name][index]


def options_at(book, state):
    """How many choices can be made next."""
    frames, behind, _ = state
    if frames == ():
        return 0
    calls, ways, _ = line_in(book, frames[-1])
    return len(ways) if behind else len(calls)


def can_choose(book, state, choice):
    """Whether any value is a choice that can be made next."""
    return is_number(choice) and choice < options_at(book, state)


def chosen(book, state, choice):
    """The state behind a choice that can be made."""
    frames, behind, _ = state
    calls, ways, _ = line_in(book, frames[-1])
    if behind:
        return gone(book, frames, ways[choice])
    if calls[choice] == "":
        return (frames, True, ())
    return begun(frames + ((calls[choice], 0),))


def gone(book, frames, way):
    """The state once the last of the frames has taken a way."""
    if is_number(way):
        return begun(frames[:-1] + ((frames[-1][0], way),))
    return ended(book, frames, way) if way == BACK else failed(book, frames, way)


def ended(book, frames, end):
    """The state once the last of the frames has ended."""
    below = frames[:-1]
    if end != BACK:
        return failed(book, below, end)
    return (below, True, ()) if below != () else ((), False, end)


def failed(book, frames, end):
    """The state once the line of the last of the frames has failed."""
    for many in range(len(frames), 0, -1):
        spot = frames[many - 1]
        index = handler_of(line_in(book, spot), end[1])
        if index is not None:
            return begun(frames[:many - 1] + ((spot[0], index),))
    return ((), False, end)


def handler_of(line, kind):
    """The index of the line of the handler of a kind, None if the line has none."""
    for own, index in line[2]:
        if own == "" or own == kind:
            return index
    return None


def arrivals_among(states):
    """The arrivals, pairs (depth, spot), by which some of the states came about."""
    arrived = [state[0] for state in states if has_arrived(state)]
    return tuple([(len(frames) - 1, frames[-1]) for frames in arrived])


def has_arrived(state):
    """Whether the last of the frames has just arrived at its spot."""
    frames, behind, _ = state
    return frames != () and not behind


def stands_at(state, spots):
    """Whether the last of the frames has just arrived at one of these spots."""
    return has_arrived(state) and state[0][-1] in spots


def lands(command, depth, given):
    """Whether a command that was given at one depth lands at a later arrival of this depth."""
    if command == "step":
        return True
    return depth <= given if command == "next" else command == "out" and depth < given
