"""Weavings: the steps of several workers, one behind another."""

from stealyard.steps import check_worker, stepped
from stealyard.yards import RESTS, is_over


def woven(plan, yard, weaving):
    """Give a pair: the yard behind the steps of a weaving, and the list of their events."""
    # All numbers are checked ahead of all steps, so that a weaving is done whole or not at all.
    for worker in weaving:
        check_worker(yard, worker)
    events = []
    for worker in weaving:
        _, states = yard
        if states[worker] != RESTS:
            yard, event = stepped(plan, yard, worker)
            if event is not None:
                events.append(event)
    return yard, events


def finished(plan, yard):
    """Give a pair: the yard behind as many rounds as bring all to rest, and the list of the events."""
    rows, _ = yard
    crew = list(range(len(rows)))
    events = []
    while not is_over(yard):
        yard, brought = woven(plan, yard, crew)
        events.extend(brought)
    return yard, events
