"""Papers that tell whether a run stands at a spot."""

from outandover.reaching import nearest
from outandover.tables import least_table


def reach_paper(program, spot):
    """A reach paper: ("run", packed) or ("never", table)."""
    run = nearest(program, spot)
    return ("run", run) if run is not None else ("never", least_table(program))
