"""Breakpoints, each on or off, as objects."""

from outandover.errors import NotUsable
from outandover.kinds import is_spot


class Breaks:
    """Spots that are kept, each on or off."""

    def __init__(self, *spots):
        for spot in spots:
            if not is_spot(spot):
                raise NotUsable("spot", spot)
        # The spots stand in this dict ascending, and it is never changed: changes make a new one.
        self._kept = {spot: True for spot in sorted(spots)}

    @property
    def on(self):
        """The set of the spots that are on."""
        return tuple([spot for spot in self._kept if self._kept[spot]])

    def __getitem__(self, at):
        if not is_spot(at) or at not in self._kept:
            raise NotUsable("spot", at)
        return self._kept[at]

    def __setitem__(self, at, worth):
        if not is_spot(at):
            raise NotUsable("spot", at)
        if worth is not True and worth is not False:
            raise NotUsable("on", worth)
        self._kept = in_order({**self._kept, at: worth})

    def __iter__(self):
        return iter(self._kept)

    def __contains__(self, x):
        return is_spot(x) and x in self._kept

    def __len__(self):
        return len(self._kept)

    def __or__(self, other):
        found = Breaks()
        found._kept = kept_by_any(self._kept, other._kept)
        return found

    def __sub__(self, other):
        found = Breaks()
        found._kept = kept_by_first(self._kept, other._kept)
        return found

    def __ior__(self, other):
        self._kept = kept_by_any(self._kept, other._kept)
        return self

    def __isub__(self, other):
        self._kept = kept_by_first(self._kept, other._kept)
        return self


def in_order(kept):
    """A dict of spots with the spots ascending."""
    return {spot: kept[spot] for spot in sorted(list(kept))}


def kept_by_any(kept, other):
    """What one of two dicts keeps, on if it is on in one of them."""
    both = {**kept, **other}
    return in_order({spot: kept.get(spot, False) or other.get(spot, False) for spot in both})


def kept_by_first(kept, other):
    """What the first of two dicts keeps and the other does not."""
    return {spot: kept[spot] for spot in kept if spot not in other}
