"""Plans: what comes of each task, and what stands in each row at first."""

from stealyard.errors import Early, NoCrew, NoTask, TooMany, Twice

MOST_TASKS = 200
MOST_WORKERS = 12


def checked(plan):
    """Give an equal plan, all its lists new, or raise the refusal that is due first."""
    brood, starts = plan
    _check_sizes(brood, starts)
    # One record for both, as what stood in brood may not stand in starts either.
    stood = {}
    _check_brood(brood, stood)
    _check_starts(starts, len(brood), stood)
    return [list(children) for children in brood], [list(tasks) for tasks in starts]


def coming(plan):
    """List the tasks that come, rising."""
    brood, starts = plan
    comes = {task: True for tasks in starts for task in tasks}
    # One rising pass will do: a task is greater than the one of which it comes.
    for task, children in enumerate(brood):
        if task in comes:
            for child in children:
                comes[child] = True
    return sorted(comes)


def _check_sizes(brood, starts):
    if len(brood) > MOST_TASKS:
        raise TooMany(f"{len(brood)} tasks, {MOST_TASKS} at most")
    if not 1 <= len(starts) <= MOST_WORKERS:
        raise NoCrew(f"{len(starts)} workers, 1 to {MOST_WORKERS} needed")


def _check_brood(brood, stood):
    for task, children in enumerate(brood):
        for child in children:
            _check_is_task(child, len(brood))
            if child <= task:
                raise Early(f"{child} comes of {task}, which isn't ahead of it")
            _check_is_new(child, stood)
            stood[child] = True


def _check_starts(starts, many, stood):
    for tasks in starts:
        for task in tasks:
            _check_is_task(task, many)
            _check_is_new(task, stood)
            stood[task] = True


def _check_is_task(number, many):
    if not 0 <= number < many:
        raise NoTask(f"{number} is none of the {many} tasks")


def _check_is_new(task, stood):
    if task in stood:
        raise Twice(f"{task} stood ahead already")
