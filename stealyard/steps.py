"""Steps: what a worker does next, by its state."""

from stealyard.errors import NoStep, NoWorker
from stealyard.yards import FREE, RESTS


def stepped(plan, yard, worker):
    """Give a pair: the yard behind a step of the worker, and its event, or None."""
    check_worker(yard, worker)
    brood, _ = plan
    rows, states = yard
    if states[worker] == RESTS:
        raise NoStep(f"worker {worker} rests")
    rows, state, event = _act(brood, rows, worker, states[worker])
    return (rows, _with_item(states, worker, state)), event


def check_worker(yard, number):
    """Raise NoWorker where the number is none of a worker."""
    rows, _ = yard
    if not 0 <= number < len(rows):
        raise NoWorker(f"{number} is none of the {len(rows)} workers")


def _act(brood, rows, worker, state):
    """Give the rows behind a step, the worker's next state, and its event, or None."""
    match state:
        case ("free",):
            return _free(rows, worker)
        case ("lowered",):
            return _lowered(rows, worker)
        case ("last", head):
            return _last(rows, worker, head)
        case ("mends", tail, task):
            return _mends(rows, worker, tail, task)
        case ("looks", k):
            return _looks(rows, worker, k)
        case ("seen", k, head):
            return _seen(rows, worker, k, head)
        case ("reads", k, head):
            return _reads(rows, worker, k, head)
        case ("tries", k, head, task):
            return _tries(rows, worker, k, head, task)
        case ("holds", task, n):
            return _holds(brood, rows, worker, task, n)
        case ("wrote", task, n):
            return _wrote(brood, rows, worker, task, n)


def _free(rows, worker):
    _, tail, _ = rows[worker]
    return _with_tail(rows, worker, tail - 1), ("lowered",), None


def _lowered(rows, worker):
    head, tail, places = rows[worker]
    if head < tail:
        # One stands ahead of it, so nobody else can get to this one.
        return rows, ("holds", places[tail], 0), ("own", worker, places[tail])
    if head == tail:
        # Others may be about to take this one too: who moves the head first has it.
        return rows, ("last", head), None
    return rows, ("mends", tail + 1, None), None


def _last(rows, worker, seen):
    head, _, places = rows[worker]
    if head != seen:
        return rows, ("mends", seen + 1, None), None
    task = places[seen]
    return _with_head(rows, worker, seen + 1), ("mends", seen + 1, task), ("own", worker, task)


def _mends(rows, worker, tail, task):
    rows = _with_tail(rows, worker, tail)
    if task is not None:
        return rows, ("holds", task, 0), None
    return _turned_to(rows, worker, 1)


def _looks(rows, worker, k):
    head, _, _ = rows[_other(rows, worker, k)]
    return rows, ("seen", k, head), None


def _seen(rows, worker, k, seen):
    _, tail, _ = rows[_other(rows, worker, k)]
    if seen < tail:
        return rows, ("reads", k, seen), None
    return _turned_to(rows, worker, k + 1)


def _reads(rows, worker, k, seen):
    _, _, places = rows[_other(rows, worker, k)]
    return rows, ("tries", k, seen, places[seen]), None


def _tries(rows, worker, k, seen, task):
    other = _other(rows, worker, k)
    head, _, _ = rows[other]
    if head != seen:
        return rows, ("looks", k), None
    return _with_head(rows, other, seen + 1), ("holds", task, 0), ("taken", worker, other, task)


def _holds(brood, rows, worker, task, n):
    children = brood[task]
    if n == len(children):
        return rows, FREE, ("done", worker, task)
    head, tail, places = rows[worker]
    row = (head, tail, _with_item(places, tail, children[n]))
    return _with_item(rows, worker, row), ("wrote", task, n), None


def _wrote(brood, rows, worker, task, n):
    _, tail, _ = rows[worker]
    return _with_tail(rows, worker, tail + 1), ("holds", task, n + 1), ("put", worker, brood[task][n])


def _turned_to(rows, worker, k):
    """Turn to the k-th other worker, or come to rest where there is none."""
    if k == len(rows):
        return rows, RESTS, ("rests", worker)
    return rows, ("looks", k), None


def _other(rows, worker, k):
    other = worker + k
    if other >= len(rows):
        return other - len(rows)
    return other


def _with_head(rows, at, head):
    _, tail, places = rows[at]
    return _with_item(rows, at, (head, tail, places))


def _with_tail(rows, at, tail):
    head, _, places = rows[at]
    return _with_item(rows, at, (head, tail, places))


def _with_item(values, at, item):
    """Give a new tuple with the item at this place, which may be the one behind the last."""
    return values[:at] + (item,) + values[at + 1:]
