"""Logs replayed."""

from outandover.sessions import Session


def replayed(log):
    """A new session behind the events of a log."""
    _, program, wished = log[0]
    events = log[1:]
    session = Session(program, wished=wished)
    session.do_all(*events)
    return session
