"""Papers that tell whether a plan is right."""

from outandover.plans import plan_fault
from outandover.tables import least_table


def plan_paper(program, frames, command, plan, *, breaks=()):
    """A plan paper: ("right", table), ("misses", packed) or ("early", packed)."""
    fault = plan_fault(program, frames, command, plan, breaks=breaks)
    return fault if fault is not None else ("right", least_table(program, cut=breaks))
