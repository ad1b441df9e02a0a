"""The checker of packed rests."""

from outandover.errors import InvalidPaper
from outandover.kinds import is_name, is_number, is_pair, is_spot
from outandover.moves import book_of
from outandover.packeditems import tally_of_packed
from outandover.programparts import misfit_in


def lets_packed(program, thing):
    """The number of arrivals of a packed rest, or InvalidPaper for its first fault."""
    if not is_packed(thing):
        raise InvalidPaper("shape", -1)
    misfit = misfit_in(program, thing[0])
    if misfit is not None:
        raise InvalidPaper("stack", misfit)
    return tally_of_packed(book_of(program), thing, ())[3]


def is_packed(thing):
    """Whether any value is a packed rest by form."""
    if not isinstance(thing, tuple) or len(thing) != 3:
        return False
    frames, lives, items = thing
    if not isinstance(frames, tuple) or len(frames) == 0 or not isinstance(lives, tuple):
        return False
    return (
        all([is_spot(spot) for spot in frames])
        and all([is_life(life) for life in lives])
        and is_items(items)
    )


def is_life(thing):
    """Whether any value is a pair of a name and items."""
    return is_pair(thing) and is_name(thing[0]) and is_items(thing[1])


def is_items(thing):
    """Whether any value is a tuple of numbers and of pairs ("life", k)."""
    return isinstance(thing, tuple) and all([is_number(item) or is_life_item(item) for item in thing])


def is_life_item(thing):
    """Whether any value is a pair ("life", k)."""
    return is_pair(thing) and isinstance(thing[0], str) and thing[0] == "life" and is_number(thing[1])
