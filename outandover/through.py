"""Sessions that are told commands and closed."""

from outandover.errors import BrokenOff, InvalidEvent


def told_through(session, commands):
    """Tells the session these commands in order, closes it, and returns how many they are."""
    count = 0
    with session:
        for command in commands:
            try:
                session.tell(command)
            except InvalidEvent as why:
                raise BrokenOff(count) from why
            count = count + 1
    return count
