"""Sets of spots as objects."""

from outandover.errors import NotUsable
from outandover.kinds import is_spot
from outandover.programparts import spots_of
from outandover.programreadings import spots_read
from outandover.programtexts import spots_text


class Spots:
    """A set of spots; only the in-place operators change it."""

    def __init__(self, *spots):
        for spot in spots:
            if not is_spot(spot):
                raise NotUsable("spot", spot)
        self._members = tuple(sorted(set(spots)))

    @property
    def members(self):
        """The set of the spots, as a tuple."""
        return self._members

    def lies_in(self, other):
        """Whether each spot is one of the other object's."""
        return all([spot in other.members for spot in self._members])

    def __or__(self, other):
        found = self._members + other.members
        return Spots(*found)

    def __and__(self, other):
        found = [spot for spot in self._members if spot in other.members]
        return Spots(*found)

    def __sub__(self, other):
        found = [spot for spot in self._members if spot not in other.members]
        return Spots(*found)

    def __xor__(self, other):
        return (self - other) | (other - self)

    def __ior__(self, other):
        changed = self | other
        self._members = changed.members
        return self

    def __iand__(self, other):
        changed = self & other
        self._members = changed.members
        return self

    def __isub__(self, other):
        changed = self - other
        self._members = changed.members
        return self

    def __contains__(self, x):
        return is_spot(x) and x in self._members

    def __len__(self):
        return len(self._members)

    def __eq__(self, other):
        return isinstance(other, Spots) and self._members == other._members

    def __iter__(self):
        return iter(self._members)

    def __str__(self):
        return str(spots_text(self._members))

    @classmethod
    def of_program(cls, program):
        """All spots of a program."""
        found = spots_of(program)
        return cls(*found)

    @classmethod
    def read(cls, text):
        """The spots that a string writes."""
        found = spots_read(text)
        return cls(*found)
