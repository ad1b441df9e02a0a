"""Desks, at which a session is led by strings."""

from outandover.errors import InvalidRow, InvalidText
from outandover.eventreadings import read_event, read_log
from outandover.eventtexts import event_line
from outandover.programtexts import spot_word, spots_text
from outandover.sessions import Session

TRIAL = "try "


class Desk:
    """A desk with a session, at first none."""

    def __init__(self):
        self._session = None
        self._begun = 0
        self._returned = 0

    def say(self, row):
        """The answer to a row."""
        self._begun = self._begun + 1
        answer = self.answer(row)
        self._returned = self._returned + 1
        return answer

    def answer(self, row):
        """The answer to a row, not counted."""
        session = session_of(row)
        if session is not None:
            self._session = session
            return "ok"
        if self._session is None:
            raise InvalidRow(row)
        return answered(self._session, row)

    def counts(self):
        """How many calls of say were begun, and how many returned."""
        return (self._begun, self._returned)


def session_of(row):
    """The new session whose first lines a row has, None if the row is no such lines."""
    try:
        log = read_log(row.split("\n"))
    except InvalidText:
        return None
    return Session(log[0][1], wished=log[0][2]) if len(log) == 1 else None


def event_of(row):
    """The event that a row writes, None if it writes none."""
    try:
        return read_event(row)
    except InvalidText:
        return None


def answered(session, row):
    """The answer of a session to a row."""
    event = event_of(row)
    if event is not None:
        return session.go(event)
    if row.startswith(TRIAL):
        event = event_of(row[len(TRIAL):])
        if event is not None:
            state, here = session.tried(event)[0]
            return f"{state} {spot_or_none(here)}"
    if row == "undo":
        return event_line(session.undo())
    answer = told_of(session, row)
    if answer is None:
        raise InvalidRow(row)
    return answer


def told_of(session, row):
    """What a row asks for that changes nothing, None if it asks for nothing."""
    if row == "state":
        return session.state
    if row == "here":
        return spot_or_none(session.here)
    if row == "frames":
        return spots_text(session.frames)
    if row == "wished":
        return spots_text(session.wished)
    if row == "passed":
        return words_or_none([str(number) for number in session.passed])
    if row == "advice":
        return session.advice() or "-"
    if row == "counts":
        return words_or_none([str(number) for number in session.counts()])
    if row == "planted":
        return words_or_none([f"{spot_word(spot)}@{look}" for spot, look in session.planted()])
    if row == "log":
        return " / ".join([event_line(event) for event in session.log()[1:]]) or "-"
    return None


def spot_or_none(spot):
    """NAME:INDEX, - for None."""
    return spot_word(spot) if spot is not None else "-"


def words_or_none(words):
    """The words with single spaces between them, - if there are none."""
    return " ".join(words) or "-"
