"""Papers that tell whether a command is safe."""

from outandover.safety import unsafe_rest
from outandover.tables import least_table


def safe_paper(program, wished, spot, command):
    """A safe paper: ("safe", table) or ("unsafe", packed)."""
    rest = unsafe_rest(program, wished, spot, command)
    return ("unsafe", rest) if rest is not None else ("safe", least_table(program))
