"""How events and logs are written."""

from outandover.programtexts import program_text, spot_word, spots_text


def event_line(event):
    """The line that writes an event."""
    word = event[0]
    if word == "feed":
        return f"feed {choices_word(event[1])}"
    if word == "tell":
        return f"tell {event[1]}"
    if word == "wish":
        return f"wish {spots_text(event[1])}"
    if word == "clear":
        return f"clear {spot_word(event[1])}"
    word = "on" if event[2] else "off"
    return f"break {spot_word(event[1])} {word}"


def choices_word(choices):
    """The choices with commas between them, - for none."""
    return ",".join([str(choice) for choice in choices]) if choices != () else "-"


def log_lines(log):
    """The list of the lines that write a log."""
    _, program, wished = log[0]
    rows = program_text(program).split("\n")
    return [f"session {len(rows)} {spots_text(wished)}"] + rows + [event_line(event) for event in log[1:]]
