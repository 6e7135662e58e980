"""A second reading of points 4, 8 and 12, apart from the package, and what several tests share.

It goes through the points by other means than the package does: a step changes lists and dicts in
place, and plain rows are kept as one tuple that a test can keep in a set.
"""

import random

WORDS = {
    "free": 0, "lowered": 0, "last": 1, "mends": 2, "looks": 1, "seen": 2,
    "reads": 2, "tries": 3, "holds": 2, "wrote": 2, "rests": 0,
}
EVENT_WORDS = {"own": 2, "taken": 3, "put": 2, "done": 2, "rests": 1}

# Each with its reason to be here: its tasks come of one another, or stand in one row, or are dealt out.
PLANS = [
    ([], [[]]),
    ([], [[], [], []]),
    ([[]], [[0]]),
    ([[1, 2], [], []], [[0]]),
    ([[1, 2], [3], [], [], []], [[0], []]),
    ([[], [], [], []], [[0, 1, 2, 3], [], []]),
    ([[], [], [], []], [[3], [1], [0, 2]]),
    ([[2, 3], [4], [], [], [5], []], [[1, 0], [], [], []]),
    ([[1], [2], [3], [4], []], [[], [0], []]),
    ([[3, 4], [], [5, 6], [], [7], [], [], [], [9], []], [[2], [0, 1], []]),
    ([[]] * 24, [list(range(24))] + [[] for _ in range(11)]),
    (
        [[2 * k + 1, 2 * k + 2] for k in range(15)] + [[] for _ in range(16)],
        [[], [0], [], [], []],
    ),
]


def many_plans(count, most_tasks, most_workers):
    """Plans made by a fixed draw: some tasks come of others, some stand in rows, some nowhere."""
    draw = random.Random(20261119)
    for _ in range(count):
        many = draw.randint(0, most_tasks)
        crew = draw.randint(1, most_workers)
        brood, starts = [[] for _ in range(many)], [[] for _ in range(crew)]
        order = list(range(many))
        draw.shuffle(order)
        for task in order:
            place = draw.randint(0, 5)
            if place and task and place < 4:
                brood[draw.randrange(task)].append(task)
            elif place:
                starts[draw.randrange(crew)].append(task)
        yield brood, starts


def weavings_of(plan, count, length):
    """Weavings made by a fixed draw: some of evenly drawn workers, some of long runs of one."""
    draw = random.Random(len(plan[0]) * 13 + len(plan[1]))
    crew = len(plan[1])
    for at in range(count):
        weaving = []
        while len(weaving) < length:
            weaving += [draw.randrange(crew)] * draw.randint(1, 1 + at % 7)
        yield weaving


def second_step(plan, yard, worker):
    """A step as point 8 tells it, of a worker that doesn't rest: the yard behind, and the event or None."""
    brood = plan[0]
    crew = len(yard[0])
    rows = [{"head": head, "tail": tail, "places": list(places)} for head, tail, places in yard[0]]
    states = [list(state) for state in yard[1]]
    own = rows[worker]
    word, told = states[worker][0], states[worker][1:]
    event = None
    if word == "free":
        own["tail"] -= 1
        states[worker] = ["lowered"]
    elif word == "lowered":
        if own["head"] < own["tail"]:
            task = own["places"][own["tail"]]
            event = ("own", worker, task)
            states[worker] = ["holds", task, 0]
        elif own["head"] == own["tail"]:
            states[worker] = ["last", own["head"]]
        else:
            states[worker] = ["mends", own["tail"] + 1, None]
    elif word == "last":
        task = None
        if own["head"] == told[0]:
            own["head"] += 1
            task = own["places"][told[0]]
            event = ("own", worker, task)
        states[worker] = ["mends", told[0] + 1, task]
    elif word == "mends":
        own["tail"] = told[0]
        if told[1] is not None:
            states[worker] = ["holds", told[1], 0]
        elif crew > 1:
            states[worker] = ["looks", 1]
        else:
            states[worker] = ["rests"]
            event = ("rests", worker)
    elif word in ("looks", "seen", "reads", "tries"):
        number = (worker + told[0]) % crew
        event = second_step_elsewhere(rows[number], number, crew, states, worker)
    elif word == "holds":
        task, n = told
        if n < len(brood[task]):
            own["places"][own["tail"]:own["tail"] + 1] = [brood[task][n]]
            states[worker] = ["wrote", task, n]
        else:
            event = ("done", worker, task)
            states[worker] = ["free"]
    else:
        assert word == "wrote", word
        own["tail"] += 1
        event = ("put", worker, brood[told[0]][told[1]])
        states[worker] = ["holds", told[0], told[1] + 1]
    frozen = tuple((row["head"], row["tail"], tuple(row["places"])) for row in rows)
    return (frozen, tuple(tuple(state) for state in states)), event


def second_step_elsewhere(other, number, crew, states, worker):
    """The four states that go by another worker's row, which stands under this number."""
    word, k, *told = states[worker]
    if word == "looks":
        states[worker] = ["seen", k, other["head"]]
    elif word == "seen":
        if told[0] < other["tail"]:
            states[worker] = ["reads", k, told[0]]
        elif k + 1 < crew:
            states[worker] = ["looks", k + 1]
        else:
            states[worker] = ["rests"]
            return ("rests", worker)
    elif word == "reads":
        states[worker] = ["tries", k, told[0], other["places"][told[0]]]
    elif other["head"] == told[0]:
        other["head"] += 1
        states[worker] = ["holds", told[1], 0]
        return ("taken", worker, number, told[1])
    else:
        states[worker] = ["looks", k]
    return None


def plain_start(plan):
    """Plain rows, what each worker holds (None, the task and what it hasn't put, or "rests"), tasks done."""
    starts = plan[1]
    return tuple(tuple(row) for row in starts), (None,) * len(starts), ()


def plain_after(plan, plain, event):
    """The same behind an event as point 12 tells it, or None where the event may not come."""
    rows, hands, done = plain
    rows, hands = [list(row) for row in rows], list(hands)
    word, worker, task = event[0], event[1], event[-1]
    if worker not in range(len(hands)) or hands[worker] == "rests":
        return None
    if word in ("own", "taken", "rests") and hands[worker] is not None:
        return None
    if word in ("put", "done") and hands[worker] is None:
        return None
    if word == "own":
        if not rows[worker] or rows[worker].pop() != task:
            return None
        hands[worker] = (task, tuple(plan[0][task]))
    elif word == "taken":
        other = event[2]
        if other not in range(len(hands)) or other == worker or not rows[other]:
            return None
        if rows[other].pop(0) != task:
            return None
        hands[worker] = (task, tuple(plan[0][task]))
    elif word == "put":
        if not hands[worker][1] or hands[worker][1][0] != task:
            return None
        rows[worker].append(task)
        hands[worker] = (hands[worker][0], hands[worker][1][1:])
    elif word == "done":
        if hands[worker] != (task, ()):
            return None
        hands[worker] = None
        done = tuple(sorted(done + ((task, worker),)))
    else:
        if rows[worker]:
            return None
        hands[worker] = "rests"
    return tuple(tuple(row) for row in rows), tuple(hands), done


def second_are_right(plan, events):
    plain = plain_start(plan)
    for event in events:
        plain = plain_after(plan, plain, event)
        if plain is None:
            return False
    return True


def second_coming(plan):
    """Point 4 by its words, until no further task comes."""
    found = {task for row in plan[1] for task in row}
    while True:
        more = {child for task in found for child in plan[0][task]} - found
        if not more:
            return sorted(found)
        found |= more


def check_yard_kinds(test, yard, workers):
    """Tuples, numbers and words, just as points 5 and 6 tell."""
    test.assertIs(type(yard), tuple)
    rows, states = yard
    test.assertIs(type(rows), tuple)
    test.assertIs(type(states), tuple)
    test.assertEqual((len(rows), len(states)), (workers, workers))
    for row in rows:
        test.assertIs(type(row), tuple)
        head, tail, places = row
        test.assertIs(type(places), tuple)
        for number in (head, tail) + places:
            test.assertIs(type(number), int)
    for state in states:
        test.assertIs(type(state), tuple)
        test.assertIs(type(state[0]), str)
        test.assertEqual(len(state) - 1, WORDS[state[0]])
        for at, number in enumerate(state[1:], start=1):
            if not (state[0] == "mends" and at == 2 and number is None):
                test.assertIs(type(number), int)


def check_event_kinds(test, event):
    test.assertIs(type(event), tuple)
    test.assertIs(type(event[0]), str)
    test.assertEqual(len(event) - 1, EVENT_WORDS[event[0]])
    for number in event[1:]:
        test.assertIs(type(number), int)
