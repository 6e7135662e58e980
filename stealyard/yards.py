"""Yards: the row and the state of each worker."""

FREE = ("free",)
RESTS = ("rests",)


def started(plan):
    """Give the yard of a plan at first: its starts as rows, and all workers free."""
    _, starts = plan
    rows = tuple([(0, len(tasks), tuple(tasks)) for tasks in starts])
    return rows, (FREE,) * len(starts)


def is_over(yard):
    """Tell whether all workers rest."""
    _, states = yard
    return all([state == RESTS for state in states])
