"""How programs, lines and sets of spots are written."""

from outandover.kinds import BACK, is_number


def program_text(program):
    """The string that writes a program."""
    rows = []
    for name, lines in program:
        rows.append(f"function {name}")
        rows.extend([line_text(line) for line in lines])
    return "\n".join(rows)


def line_text(line):
    """The string that writes a line, a row of three words."""
    calls, ways, handlers = line
    words = (
        ",".join([call if call != "" else "-" for call in calls]),
        ",".join([way_word(way) for way in ways]),
        ",".join([handler_word(kind, index) for kind, index in handlers]) if handlers != () else "-",
    )
    return " ".join(words)


def way_word(way):
    """A number, back, or fail:KIND."""
    if is_number(way):
        return str(way)
    return "back" if way == BACK else f"fail:{way[1]}"


def handler_word(kind, index):
    """KIND>INDEX, with * for the kind ""."""
    return f"{kind}>{index}" if kind != "" else f"*>{index}"


def spots_text(spots):
    """The string that writes a set of spots."""
    return " ".join([spot_word(spot) for spot in spots]) if len(spots) > 0 else "-"


def spot_word(spot):
    """NAME:INDEX."""
    name, index = spot
    return f"{name}:{index}"
