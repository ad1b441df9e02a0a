"""How guides are written."""

from outandover.programtexts import spot_word


def guide_text(states):
    """The string that writes a guide."""
    rows = []
    for state in states:
        rows.append("state")
        rows.extend([rule_text(rule) for rule in state])
    return "\n".join(rows)


def rule_text(rule):
    """The row of four words that writes a rule."""
    where, command, breaks, state = rule
    return f"{where_word(where)} {command} {breaks_word(breaks)} {state}"


def where_word(where):
    """A name, NAME:INDEX, or * for ""."""
    if isinstance(where, tuple):
        return spot_word(where)
    return where if where != "" else "*"


def breaks_word(breaks):
    """The spots with commas between them, - for none."""
    return ",".join([spot_word(spot) for spot in breaks]) if breaks != () else "-"
