"""Live sessions, which follow a run by planted stops."""

from outandover.errors import InvalidEvent, NothingToUndo, NotUsable
from outandover.kinds import is_spots
from outandover.moments import first_moment, moment_behind, reason_against, standing_frames, word_of
from outandover.programchecker import lets_program
from outandover.safety import furthest


class Session:
    """A session over one program, led by events, until it is closed."""

    MOST = 40

    def __init__(self, program, *, wished=()):
        lets_program(program)
        if not is_spots(wished):
            raise NotUsable("wished", -1)
        self._program = program
        self._beginning = ("session", program, wished)
        self._moment = first_moment(program, wished)
        self._closed = False

    @property
    def state(self):
        """"stopped", "running", "over" or "closed"."""
        return "closed" if self._closed else word_of(self._moment)

    @property
    def here(self):
        """The spot at which it stands, None if it does not stand at an arrival."""
        frames = standing_frames(self._moment)
        return frames[-1] if frames != () else None

    @property
    def frames(self):
        """The frames from the first one to that of here, () if it does not stand at an arrival."""
        return standing_frames(self._moment)

    @property
    def passed(self):
        """The numbers of the arrivals at wished spots at which it did not halt."""
        return self._moment["passed"]

    @property
    def wished(self):
        """The wished spots."""
        return self._moment["wished"]

    @wished.setter
    def wished(self, value):
        self.go(("wish", value))

    def set_wished(self, spots):
        """Assigns the wished spots, and returns them."""
        self.wished = spots
        return self.wished

    def feed(self, choices):
        """Puts choices behind those fed before."""
        return self.go(("feed", choices))

    def tell(self, command):
        """Gives a command."""
        return self.go(("tell", command))

    def set_break(self, spot, on):
        """Keeps a spot as a breakpoint, on or off."""
        return self.go(("break", spot, on))

    def clear_break(self, spot):
        """Keeps a spot as a breakpoint no longer."""
        return self.go(("clear", spot))

    def go(self, event):
        """Applies an event, and returns the state then."""
        self._moment = self.behind(self._moment, event)
        return self.state

    def __call__(self, command):
        return self.tell(command)

    def behind(self, moment, event):
        """The moment behind an event, or InvalidEvent."""
        reason = reason_against(self._program, moment, event, self.MOST, self._closed)
        if reason != "":
            raise InvalidEvent(event, reason)
        return moment_behind(self._program, moment, event)

    def tried(self, *events):
        """The pairs (state, here) behind each of these events, which are not applied."""
        moment = self._moment
        found = []
        for event in events:
            moment = self.behind(moment, event)
            frames = standing_frames(moment)
            found.append((word_of(moment), frames[-1] if frames != () else None))
        return tuple(found)

    def undo(self):
        """Takes back the last event, and returns it."""
        if self._closed:
            raise InvalidEvent(("undo",), "closed")
        events = self._moment["events"]
        if events == ():
            raise NothingToUndo(0)
        self._moment = self._moment["before"]
        return events[-1]

    def do_all(self, *events, keep=False):
        """Applies events in order, and returns their number; after an error none, or those before if keep is True."""
        moment = self._moment
        for event in events:
            moment = self.behind(moment, event)
            if keep:
                self._moment = moment
        self._moment = moment
        return len(events)

    def planted(self):
        """The plants of the command under way."""
        return () if self._closed else self._moment["plants"]

    def advice(self):
        """The furthest command here, None unless it is stopped."""
        return furthest(self._program, self.wished, self.here) if self.state == "stopped" else None

    def counts(self):
        """How many arrivals were read behind arrival 0, and at how many of them it halted."""
        return (self._moment["arrived"], self._moment["halted"])

    def log(self):
        """The log of its beginning, and of the events that were not taken back."""
        return (self._beginning,) + self._moment["events"]

    def __enter__(self):
        return self

    def __exit__(self, kind, value, trace):
        self._closed = True
