"""How rows of words are read."""

from outandover.errors import InvalidText
from outandover.words import spot_in


def parts_of_words(words, row, part_in, many):
    """The tuple of the so many parts that the words of this row write.

    part_in gives the part in a field of words, None if it is not possible or one too many.
    """
    parts = []
    for field in range(len(words)):
        part = part_in(words, field)
        if part is None:
            raise InvalidText(row, field)
        parts.append(part)
    if len(parts) < many:
        raise InvalidText(row, len(parts))
    return tuple(parts)


def spots_of_words(words, row, first):
    """The tuple of spots that the words of this row write, from the first of these fields on."""
    if len(words) <= first:
        raise InvalidText(row, first)
    if words[first] == "-":
        if len(words) > first + 1:
            raise InvalidText(row, first + 1)
        return ()
    spots = []
    for field in range(first, len(words)):
        spot = spot_in(words[field])
        if spot is None:
            raise InvalidText(row, field)
        spots.append(spot)
    return tuple(spots)


def blocks_of_rows(rows, before, begins, head_of, part_of):
    """Blocks, pairs of what their first row tells, and of the list of what the others tell, at least one.

    before is how many rows stand in front of these. begins tells whether words begin a block; head_of and part_of
    read the words of a row.
    """
    blocks = []
    for k, row in enumerate(rows, start=before):
        words = row.split(" ")
        starts = begins(words)
        # The first row of a block is possible only at the beginning, and behind one that is no such row.
        if starts and blocks != [] and blocks[-1][1] == []:
            raise InvalidText(k, 0)
        if not starts and blocks == []:
            raise InvalidText(k, 0)
        if starts:
            blocks.append((head_of(words, k), []))
        else:
            blocks[-1][1].append(part_of(words, k))
    if blocks[-1][1] == []:
        raise InvalidText(before + len(rows), 0)
    return blocks
