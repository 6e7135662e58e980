"""Events: whether they are right for a plan, and what they tell of its tasks."""

from stealyard.plans import coming
from stealyard.yards import FREE, RESTS


def are_right(plan, events):
    """Tell whether events can be gone through, one by one, with plain rows."""
    brood, starts = plan
    rows = [list(tasks) for tasks in starts]
    # Of the states, these will do here: FREE, RESTS and ("holds", task, n).
    states = [FREE for _ in starts]
    for event in events:
        if not _goes_on(brood, rows, states, event):
            return False
    return True


def done_by(events):
    """Give a dict from the tasks that were done to the workers that did them."""
    return {event[2]: event[1] for event in events if event[0] == "done"}


def undone(plan, events):
    """List the tasks that come and aren't done, rising."""
    done = done_by(events)
    return [task for task in coming(plan) if task not in done]


def _goes_on(brood, rows, states, event):
    """Tell whether the event may come next; where it may, rows and states go on with it."""
    match event:
        case ("own", worker, task):
            return _own(rows, states, worker, task)
        case ("taken", worker, other, task):
            return _taken(rows, states, worker, other, task)
        case ("put", worker, child):
            return _put(brood, rows, states, worker, child)
        case ("done", worker, task):
            return _done(brood, states, worker, task)
        case ("rests", worker):
            return _rests(rows, states, worker)
        case _:
            return False


def _own(rows, states, worker, task):
    if not _is_free(states, worker) or rows[worker][-1:] != [task]:
        return False
    rows[worker].pop()
    states[worker] = ("holds", task, 0)
    return True


def _taken(rows, states, worker, other, task):
    if not _is_free(states, worker) or not _is_worker(states, other) or other == worker:
        return False
    if rows[other][:1] != [task]:
        return False
    rows[other].pop(0)
    states[worker] = ("holds", task, 0)
    return True


def _put(brood, rows, states, worker, child):
    if not _is_holding(states, worker):
        return False
    _, task, n = states[worker]
    if brood[task][n:n + 1] != [child]:
        return False
    rows[worker].append(child)
    states[worker] = ("holds", task, n + 1)
    return True


def _done(brood, states, worker, task):
    if not _is_holding(states, worker):
        return False
    _, held, n = states[worker]
    if task != held or n < len(brood[held]):
        return False
    states[worker] = FREE
    return True


def _rests(rows, states, worker):
    if not _is_free(states, worker) or rows[worker]:
        return False
    states[worker] = RESTS
    return True


def _is_worker(states, number):
    return 0 <= number < len(states)


def _is_free(states, number):
    return _is_worker(states, number) and states[number] == FREE


def _is_holding(states, number):
    return _is_worker(states, number) and states[number][0] == "holds"
