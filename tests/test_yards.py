"""Points 5 to 7, and the last sentence of point 11: started and is_over."""

import copy
import inspect
import itertools
import unittest

from stealyard import yards
from stealyard.yards import is_over, started

ROW = (0, 0, ())
RESTS = ("rests",)

# Point 6, one of each form but the one at rest.
OTHER_STATES = [
    ("free",),
    ("lowered",),
    ("last", 0),
    ("mends", 1, None),
    ("mends", 1, 0),
    ("looks", 1),
    ("seen", 1, 0),
    ("reads", 1, 0),
    ("tries", 1, 0, 0),
    ("holds", 0, 0),
    ("wrote", 0, 0),
]


class InterfaceTest(unittest.TestCase):
    def test_names_and_arguments(self):
        for function, arguments in ((yards.started, ["plan"]), (yards.is_over, ["yard"])):
            self.assertEqual(list(inspect.signature(function).parameters), arguments)
            self.assertEqual(function.__module__, "stealyard.yards")


class StartedTest(unittest.TestCase):
    def of_the_kinds_told(self, yard, workers):
        """Tuples of tuples and numbers, just as points 5 and 6 tell."""
        self.assertIs(type(yard), tuple)
        rows, states = yard
        self.assertIs(type(rows), tuple)
        self.assertIs(type(states), tuple)
        self.assertEqual((len(rows), len(states)), (workers, workers))
        for row in rows:
            self.assertIs(type(row), tuple)
            head, tail, places = row
            self.assertIs(type(head), int)
            self.assertIs(type(tail), int)
            self.assertIs(type(places), tuple)
            for task in places:
                self.assertIs(type(task), int)
        for state in states:
            self.assertIs(type(state), tuple)
            self.assertEqual(state, ("free",))
            self.assertIs(type(state[0]), str)

    def starts_as(self, plan, yard):
        before = copy.deepcopy(plan)
        for _ in range(2):
            answer = started(plan)
            self.assertEqual(answer, yard)
            self.of_the_kinds_told(answer, len(plan[1]))
            self.assertEqual(plan, before)

    def test_one_worker(self):
        free = ("free",)
        self.starts_as(([], [[]]), (((0, 0, ()),), (free,)))
        self.starts_as(([[]], [[]]), (((0, 0, ()),), (free,)))
        self.starts_as(([[]], [[0]]), (((0, 1, (0,)),), (free,)))
        self.starts_as(([[], [], []], [[2, 0, 1]]), (((0, 3, (2, 0, 1)),), (free,)))

    def test_brood_is_in_no_row(self):
        self.starts_as(
            ([[1, 2], [], [3], [], []], [[4], [], [0]]),
            (((0, 1, (4,)), (0, 0, ()), (0, 1, (0,))), (("free",),) * 3),
        )

    def test_1_to_12_workers(self):
        for many in range(1, 13):
            with self.subTest(many):
                plan = ([[] for _ in range(many)], [[many - 1 - k] for k in range(many)])
                rows = tuple((0, 1, (many - 1 - k,)) for k in range(many))
                self.starts_as(plan, (rows, (("free",),) * many))
                self.starts_as(([], [[]] * many), ((ROW,) * many, (("free",),) * many))

    def test_long_rows(self):
        brood = [[] for _ in range(200)]
        down = list(range(199, -1, -1))
        self.starts_as((brood, [down]), (((0, 200, tuple(down)),), (("free",),)))
        self.starts_as(
            (brood, [down[:150], [], down[150:]]),
            (
                ((0, 150, tuple(down[:150])), (0, 0, ()), (0, 50, tuple(down[150:]))),
                (("free",),) * 3,
            ),
        )

    def test_a_change_of_the_plan_changes_no_yard(self):
        plan = ([[1], [], []], [[2, 0], []])
        yard = started(plan)
        plan[1][0].append(1)
        plan[1][1].append(1)
        plan[1].append([1])
        plan[0].append([])
        self.assertEqual(yard, (((0, 2, (2, 0)), (0, 0, ())), (("free",), ("free",))))


class IsOverTest(unittest.TestCase):
    def tells(self, states, answer):
        yard = ((ROW,) * len(states), tuple(states))
        before = copy.deepcopy(yard)
        for _ in range(2):
            self.assertIs(is_over(yard), answer)
            self.assertEqual(yard, before)

    def test_all_rest(self):
        for many in range(1, 13):
            self.tells([RESTS] * many, True)

    def test_none_rests(self):
        for state in OTHER_STATES:
            for many in range(1, 13):
                self.tells([state] * many, False)

    def test_one_rests(self):
        for state in OTHER_STATES:
            for many in range(2, 13):
                for worker in range(many):
                    states = [state] * many
                    states[worker] = RESTS
                    self.tells(states, False)

    def test_all_rest_but_one(self):
        for state in OTHER_STATES:
            for many in range(1, 13):
                for worker in range(many):
                    states = [RESTS] * many
                    states[worker] = state
                    self.tells(states, False)

    def test_every_mixture_of_three(self):
        for states in itertools.product(OTHER_STATES + [RESTS], repeat=3):
            self.tells(states, states == (RESTS,) * 3)

    def test_rows_with_places_left_behind(self):
        row = (2, 2, (0, 1))
        self.assertIs(is_over(((row, row), (RESTS, RESTS))), True)
        self.assertIs(is_over(((row, row), (RESTS, ("free",)))), False)

    def test_a_yard_at_first_is_not_over(self):
        self.assertIs(is_over(started(([], [[]]))), False)
        self.assertIs(is_over(started(([[], []], [[0], [], [1]]))), False)


if __name__ == "__main__":
    unittest.main()
