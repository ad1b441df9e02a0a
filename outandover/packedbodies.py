"""Packed rests from the bodies that give least sums."""

from outandover.kinds import is_number
from outandover.leastsums import heads_in


def packed_by(frames, sums, head):
    """The packed rest of these frames that a head stands for; its lives are packed."""
    needed = heads_below(sums, head)
    names = [other for other in sums if other in needed and is_life_head(other)]
    numbers = {name: k for k, name in enumerate(names)}
    lives = tuple([(name[1], items_by(sums, numbers, name)) for name in names])
    return (frames, lives, items_by(sums, numbers, head))


def heads_below(sums, head):
    """A dict of all heads from which a head comes, and of itself."""
    found = {}
    waiting = [head]
    while waiting:
        other = waiting.pop()
        if other not in found:
            found[other] = True
            waiting.extend(heads_in(sums[other][1]))
    return found


def is_life_head(head):
    """Whether a head stands for a whole life."""
    return head[0] == "life"


def items_by(sums, numbers, head):
    """The items that a head stands for, its lives by their numbers."""
    items = []
    waiting = list(sums[head][1][::-1])
    while waiting:
        part = waiting.pop()
        if is_number(part):
            items.append(part)
        elif is_life_head(part):
            items.append(("life", numbers[part]))
        else:
            waiting.extend(sums[part][1][::-1])
    return tuple(items)
