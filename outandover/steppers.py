"""Steppers as objects."""

from outandover.choosing import arrivals_of
from outandover.programparts import spots_of
from outandover.safety import commands_at


class Stepper:
    """A stepper that gives "step" at each stop."""

    def told(self, run):
        """The command that it gives."""
        return "step"

    def __call__(self, run):
        return self.told(run)


class Furthest(Stepper):
    """The stepper that gives the furthest command at each stop."""

    def __init__(self, program, wished):
        self._program = program
        # One look at the program is enough for all stops.
        self._commands = commands_at(program, wished, spots_of(program))

    def told(self, run):
        """The furthest command at the spot of the last arrival of the run."""
        return self._commands[arrivals_of(self._program, run)[-1][1]]

    def __call__(self, run):
        return self.told(run)


class Fixed(Stepper):
    """A stepper that gives these words in turn."""

    def __init__(self, *words):
        self._words = words
        self._turn = 0

    def told(self, run):
        """The next of the words, the first one again behind the last one; "step" if there are none."""
        if self._words == ():
            return "step"
        word = self._words[self._turn]
        self._turn = (self._turn + 1) % len(self._words)
        return word

    def __call__(self, run):
        return self.told(run)


class Counting(Stepper):
    """A stepper that counts how often it is asked."""

    def __init__(self):
        self.asked = 0

    def told(self, run):
        """The command that it gives, counted even if there is an error."""
        self.asked = self.asked + 1
        return super().told(run)

    def __call__(self, run):
        return self.told(run)


class CountingFurthest(Counting, Furthest):
    """The furthest stepper, which counts how often it is asked."""

    def __init__(self, program, wished):
        Counting.__init__(self)
        Furthest.__init__(self, program, wished)

    def told(self, run):
        """The furthest command at the spot of the last arrival of the run, counted even if there is an error."""
        return super().told(run)

    def __call__(self, run):
        return self.told(run)
