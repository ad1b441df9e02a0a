"""What a session knows behind its events, and how each event changes it.

A moment is a dict, which is never changed: an event makes a new one. Its keys:
- "events": the events so far; "before": the moment before the last of them;
- "wished": the wished spots; "breaks": the set of the breakpoints that are on;
- "states": the states of the frames along the choices fed, one more than they
  are, and "read": the index of the one to which the session has read;
- "running": whether a command is under way, and "plants": its plants;
- "passed": the numbers of the wished arrivals that were passed, "arrived" and
  "halted": how many arrivals were read, and at how many of them it halted.
"""

from outandover.eventkinds import is_event
from outandover.moves import begun, book_of, can_choose, chosen, first_frames, has_arrived
from outandover.plans import least_plan
from outandover.plants import is_hit


def first_moment(program, wished):
    """The moment at the beginning of a session."""
    return {
        "events": (), "before": None, "wished": wished, "breaks": (), "states": (begun(first_frames(program)),),
        "read": 0, "running": False, "plants": (), "passed": (), "arrived": 0, "halted": 0,
    }


def standing_frames(moment):
    """The frames at whose last spot the session stands, () if it does not stand at an arrival."""
    return () if moment["running"] else frames_read(moment)


def frames_read(moment):
    """The frames behind the last choice that was read."""
    return moment["states"][moment["read"]][0]


def word_of(moment):
    """The word of the state of a session that is not closed."""
    if moment["running"]:
        return "running"
    return "stopped" if frames_read(moment) != () else "over"


def reason_against(program, moment, event, most, is_closed):
    """The first reason for which an event is not possible, "" if it is possible."""
    if not is_event(event):
        return "shape"
    if len(moment["events"]) >= most:
        return "full"
    if is_closed:
        return "closed"
    word = word_of(moment)
    if event[0] == "feed":
        if word == "over":
            return word
        return "" if states_fed(program, moment["states"], event[1]) is not None else "choice"
    if word == "running" or word == "over" and event[0] == "tell":
        return word
    return ""


def states_fed(program, states, choices):
    """The states along some more choices, None if one of them cannot be made."""
    book = book_of(program)
    found = list(states)
    for choice in choices:
        if not can_choose(book, found[-1], choice):
            return None
        found.append(chosen(book, found[-1], choice))
    return tuple(found)


def moment_behind(program, moment, event):
    """The moment behind a possible event."""
    told = {**moment, "events": moment["events"] + (event,), "before": moment}
    word = event[0]
    if word == "feed":
        return read_on({**told, "states": states_fed(program, told["states"], event[1])})
    if word == "tell":
        return read_on({**told, "running": True, "plants": plants_for(program, told, event[1])})
    if word == "wish":
        return {**told, "wished": event[1]}
    others = [spot for spot in told["breaks"] if spot != event[1]]
    if word == "break" and event[2]:
        others.append(event[1])
    return {**told, "breaks": tuple(sorted(others))}


def plants_for(program, moment, command):
    """The plants of a command that is told now."""
    breaks = moment["breaks"]
    if command == "go":
        return tuple([(spot, -1) for spot in breaks])
    return least_plan(program, frames_read(moment), command, breaks=breaks)


def read_on(moment):
    """The moment once all choices are read, or those up to the first arrival that hits a plant."""
    while moment["running"] and moment["read"] + 1 < len(moment["states"]):
        moment = {**moment, "read": moment["read"] + 1}
        state = moment["states"][moment["read"]]
        if has_arrived(state):
            moment = arrived_at(moment, (state[0][-1], len(state[0]) - 1))
        elif state[0] == ():
            moment = {**moment, "running": False, "plants": ()}
    return moment


def arrived_at(moment, arrival):
    """The moment once an arrival has been read."""
    number = moment["arrived"] + 1
    if is_hit(moment["plants"], arrival):
        halted = moment["halted"] + 1
        return {**moment, "arrived": number, "halted": halted, "running": False, "plants": ()}
    passed = moment["passed"] + ((number,) if arrival[0] in moment["wished"] else ())
    return {**moment, "arrived": number, "passed": passed}
