"""Walks: runs that are led by hand."""

from outandover.errors import NotUsable
from outandover.kinds import is_number
from outandover.moves import arrivals_among, begun, book_of, can_choose, chosen, first_frames, options_at


class Walk:
    """A run of a program that grows and shrinks choice by choice."""

    def __init__(self, program):
        self.program = program
        self._choices = ()
        # One state more than there are choices, so that going back needs no second run.
        self._states = (begun(first_frames(program)),)

    @property
    def choices(self):
        """The run."""
        return self._choices

    @property
    def frames(self):
        """The spots at which the frames stand, () if the run is over."""
        return self._states[-1][0]

    @property
    def here(self):
        """The spot at which the last frame stands, None if the run is over."""
        frames = self._states[-1][0]
        return frames[-1] if frames != () else None

    @property
    def is_over(self):
        """Whether the run is over."""
        return self._states[-1][0] == ()

    @property
    def options(self):
        """How many choices can be made next."""
        return options_at(book_of(self.program), self._states[-1])

    @property
    def given(self):
        """The last choice, None if there is none."""
        return self._choices[-1] if self._choices != () else None

    @given.setter
    def given(self, value):
        self.take(value)

    def set_given(self, choice):
        """Makes the next choice by assigning it, and returns given then."""
        self.given = choice
        return self.given

    def take(self, choice):
        """Makes the next choice, and returns how many can be made then."""
        self.take_all(choice)
        return self.options

    def take_all(self, *choices):
        """Makes all of these choices, or none, and returns how many they are."""
        book = book_of(self.program)
        states = list(self._states)
        for choice in choices:
            if not can_choose(book, states[-1], choice):
                raise NotUsable("choice", len(states) - 1)
            states.append(chosen(book, states[-1], choice))
        self._states = tuple(states)
        self._choices = self._choices + choices
        return len(choices)

    def back(self):
        """Takes back the last choice, and returns it."""
        if self._choices == ():
            raise NotUsable("choice", -1)
        choice = self._choices[-1]
        self._choices = self._choices[:-1]
        self._states = self._states[:-1]
        return choice

    def copy(self):
        """A new walk of this program with this run."""
        twin = Walk(self.program)
        twin.take_all(*self._choices)
        return twin

    def __len__(self):
        return len(self._choices)

    def __iter__(self):
        return iter(self._choices)

    def __getitem__(self, at):
        arrivals = arrivals_among(self._states)
        if not is_number(at) or at >= len(arrivals):
            raise NotUsable("arrival", at)
        return arrivals[at]

    def __eq__(self, other):
        return isinstance(other, Walk) and self.program == other.program and self._choices == other._choices

    def __call__(self, choices):
        walk = self.copy()
        walk.take_all(*choices)
        return walk
