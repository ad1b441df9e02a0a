"""All runs of one length."""

from outandover.counting import can_last, counts_of
from outandover.moves import begun, book_of, chosen, first_frames, options_at


def runs_of(program, count):
    """Yields all runs with exactly so many choices, ascending."""
    book = book_of(program)
    counts = counts_of(book, count)
    waiting = [((), begun(first_frames(program)))]
    while waiting:
        run, state = waiting.pop()
        # Runs that must be over too early are left out at once: there may be far more of them than results.
        if not can_last(book, counts, state, count - len(run)):
            continue
        if len(run) == count:
            yield run
            continue
        for choice in range(options_at(book, state) - 1, -1, -1):
            waiting.append((run + (choice,), chosen(book, state, choice)))


def how_many_runs(program, count):
    """How many runs have exactly so many choices."""
    counts = counts_of(book_of(program), count)
    going, ended = counts[(first_frames(program)[0], False)][count]
    return going + sum([ended[end] for end in ended])
