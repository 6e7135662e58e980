"""Points 1 to 4: checked and coming."""

import copy
import inspect
import itertools
import unittest

import readings
from stealyard import plans
from stealyard.errors import Early, NoCrew, NoStep, NoTask, NoWorker, TooMany, Twice, YardError
from stealyard.plans import checked, coming

REFUSALS = [TooMany, NoCrew, NoTask, Early, Twice, NoWorker, NoStep]

GOOD = [
    ([], [[]]),
    ([], [[], [], []]),
    ([[]], [[]]),
    ([[]], [[0]]),
    ([[1, 2], [], [3], []], [[0], []]),
    ([[3, 1, 2], [], [], []], [[0]]),
    ([[], [], [], []], [[3, 1], [], [2, 0]]),
    ([[2], [3], [], [], []], [[1], [4, 0]]),
    ([[4], [], [3], [], []], [[], [1]]),
]


def lists_of(plan):
    """Every list of a plan, the two outer ones too."""
    brood, starts = plan
    return [brood, starts] + list(brood) + list(starts)


def refusal_due(plan):
    """The class that point 3 calls for, or None: each fault is looked for by its own words."""
    brood, starts = plan
    if len(brood) > 200:
        return TooMany
    if len(starts) not in range(1, 13):
        return NoCrew
    numbers = [(task, child) for task in range(len(brood)) for child in brood[task]]
    numbers += [(None, task) for row in starts for task in row]
    for at, (parent, number) in enumerate(numbers):
        if number not in range(len(brood)):
            return NoTask
        if parent is not None and number <= parent:
            return Early
        if number in [other for _, other in numbers[:at]]:
            return Twice
    return None


def small_rows(numbers, longest):
    """Every list of these numbers that has no more than so many."""
    return [
        list(row)
        for length in range(longest + 1)
        for row in itertools.product(numbers, repeat=length)
    ]


def small_plans():
    """Every plan of 0 to 2 tasks with short rows of numbers from -1 to 2, good or not."""
    for many in range(3):
        rows = small_rows(range(-1, many + 1), 2)
        for brood in itertools.product(rows, repeat=many):
            for start in rows:
                yield ([list(row) for row in brood], [list(start)])
            for starts in itertools.product(small_rows(range(-1, many + 1), 1), repeat=2):
                yield ([list(row) for row in brood], [list(row) for row in starts])


def good_three_task_plans():
    """Every good plan of 3 tasks and 2 workers with short rows."""
    for brood in itertools.product(small_rows([1, 2], 2), small_rows([2], 1), [[]]):
        for starts in itertools.product(small_rows(range(3), 3), small_rows(range(3), 1)):
            plan = ([list(row) for row in brood], [list(row) for row in starts])
            if refusal_due(plan) is None:
                yield plan


class InterfaceTest(unittest.TestCase):
    def test_names_and_arguments(self):
        for function in (plans.checked, plans.coming):
            self.assertEqual(list(inspect.signature(function).parameters), ["plan"])
            self.assertEqual(function.__module__, "stealyard.plans")


class RefusalCase(unittest.TestCase):
    def refused(self, error, plan):
        """The plan is refused by this class alone, twice over, and stays as it was."""
        before = copy.deepcopy(plan)
        for _ in range(2):
            with self.assertRaises(YardError) as caught:
                checked(plan)
            self.assertIs(type(caught.exception), error)
            self.assertIsInstance(caught.exception, ValueError)
            told = [kind for kind in REFUSALS if isinstance(caught.exception, kind)]
            self.assertEqual(told, [error])
            self.assertEqual(plan, before)


class GoodPlansTest(unittest.TestCase):
    def test_an_equal_plan_of_the_same_form(self):
        for plan in GOOD:
            with self.subTest(plan):
                answer = checked(plan)
                self.assertEqual(answer, plan)
                self.assertIs(type(answer), tuple)
                self.assertEqual(len(answer), 2)
                for each in lists_of(answer):
                    self.assertIs(type(each), list)
                for row in list(answer[0]) + list(answer[1]):
                    for number in row:
                        self.assertIs(type(number), int)

    def test_all_lists_are_new(self):
        for plan in GOOD:
            with self.subTest(plan):
                answer = checked(plan)
                known = lists_of(plan)
                for each in lists_of(answer):
                    self.assertFalse(any(each is other for other in known))
                    known.append(each)

    def test_lists_that_the_plan_shares_come_back_apart(self):
        row = []
        answer = checked(([row, row], [row, row]))
        answer[0][0].append(1)
        answer[1][1].append(0)
        self.assertEqual(answer, ([[1], []], [[], [0]]))
        self.assertEqual(row, [])
        rows = [[]]
        answer = checked((rows, rows))
        self.assertIsNot(answer[0], answer[1])
        self.assertIsNot(answer[0][0], answer[1][0])

    def test_the_plan_stays_as_it_was(self):
        for plan in GOOD:
            with self.subTest(plan):
                mine = copy.deepcopy(plan)
                parts = lists_of(mine)
                checked(mine)
                self.assertEqual(mine, plan)
                for before, after in zip(parts, lists_of(mine)):
                    self.assertIs(before, after)

    def test_a_change_of_the_answer_changes_no_plan_and_no_later_answer(self):
        for plan in GOOD:
            with self.subTest(plan):
                mine = copy.deepcopy(plan)
                answer = checked(mine)
                for each in lists_of(answer):
                    each.append([7])
                self.assertEqual(mine, plan)
                self.assertEqual(checked(mine), plan)

    def test_a_change_of_the_plan_changes_no_answer(self):
        for plan in GOOD:
            with self.subTest(plan):
                mine = copy.deepcopy(plan)
                answer = checked(mine)
                for each in lists_of(mine):
                    each.append([7])
                self.assertEqual(answer, plan)

    def test_asked_again_after_a_refusal_the_same(self):
        for plan in GOOD:
            with self.subTest(plan):
                with self.assertRaises(Twice):
                    checked(([[1], []], [[0, 1]]))
                self.assertEqual(checked(plan), plan)
                self.assertEqual(checked(plan), plan)


class SizesTest(RefusalCase):
    def test_200_tasks_are_taken_and_201_are_too_many(self):
        plan = ([[] for _ in range(200)], [list(range(200))])
        self.assertEqual(checked(plan), plan)
        self.refused(TooMany, ([[] for _ in range(201)], [[]]))
        self.refused(TooMany, ([[] for _ in range(500)], [[0]]))

    def test_199_as_the_last_task(self):
        chain = ([[task + 1] for task in range(199)] + [[]], [[0]])
        self.assertEqual(checked(chain), chain)
        self.refused(NoTask, ([[task + 1] for task in range(200)], [[0]]))

    def test_1_to_12_workers(self):
        for many in range(1, 13):
            plan = ([[]], [[] for _ in range(many - 1)] + [[0]])
            self.assertEqual(checked(plan), plan)
        for many in (0, 13, 14, 100):
            self.refused(NoCrew, ([[]], [[] for _ in range(many)]))
            self.refused(NoCrew, ([], [[] for _ in range(many)]))

    def test_too_many_ahead_of_all_others(self):
        for starts in ([], [[] for _ in range(13)], [[-1]], [[0, 0]], [[201]]):
            for first in ([], [-1], [0], [1, 1], [201]):
                self.refused(TooMany, ([first] + [[] for _ in range(200)], starts))

    def test_no_crew_ahead_of_all_but_too_many(self):
        for starts in ([], [[] for _ in range(13)], [[-1]] * 13, [[0, 0]] * 13, [[5]] * 13):
            for first in ([], [-1], [0], [1, 1], [2]):
                self.refused(NoCrew, ([first, []], starts))
                self.refused(NoCrew, ([first] + [[] for _ in range(199)], starts))


class NumbersTest(RefusalCase):
    def test_no_task_in_brood(self):
        for number in (-1, -2, -200, 3, 4, 200, 10 ** 20, -10 ** 20):
            for task in range(3):
                brood = [[], [], []]
                brood[task] = [number]
                self.refused(NoTask, (brood, [[]]))

    def test_no_task_in_starts(self):
        for number in (-1, -2, -200, 3, 4, 200, 10 ** 20, -10 ** 20):
            for worker in range(2):
                starts = [[], []]
                starts[worker] = [number]
                self.refused(NoTask, ([[], [], []], starts))
        self.refused(NoTask, ([], [[0]]))

    def test_no_task_behind_good_numbers(self):
        self.refused(NoTask, ([[1, 2, 3], [], []], [[0]]))
        self.refused(NoTask, ([[1], [2], []], [[0], [3]]))

    def test_early(self):
        self.refused(Early, ([[0]], [[]]))
        self.refused(Early, ([[], [1]], [[]]))
        self.refused(Early, ([[], [0]], [[]]))
        self.refused(Early, ([[], [], [0]], [[1]]))
        self.refused(Early, ([[], [2, 0], []], [[]]))

    def test_twice_in_brood(self):
        self.refused(Twice, ([[1, 1], []], [[]]))
        self.refused(Twice, ([[1, 2, 1], [], []], [[]]))
        self.refused(Twice, ([[2], [2], []], [[]]))
        self.refused(Twice, ([[3], [], [3], []], [[]]))

    def test_twice_in_starts(self):
        self.refused(Twice, ([[]], [[0, 0]]))
        self.refused(Twice, ([[]], [[0], [0]]))
        self.refused(Twice, ([[], []], [[0, 1], [], [0]]))

    def test_twice_in_starts_after_brood(self):
        self.refused(Twice, ([[1], []], [[1]]))
        self.refused(Twice, ([[1], []], [[0, 1]]))
        self.refused(Twice, ([[1], []], [[0], [1]]))

    def test_a_number_of_starts_may_be_any_task(self):
        plan = ([[], [], []], [[2, 1, 0]])
        self.assertEqual(checked(plan), plan)


class OrderTest(RefusalCase):
    def test_of_one_number_early_comes_ahead_of_twice(self):
        self.refused(Early, ([[1], [1]], [[]]))
        self.refused(Early, ([[1, 2], [], [1]], [[]]))

    def test_of_one_number_no_task_comes_ahead_of_early_and_twice(self):
        self.refused(NoTask, ([[-1]], [[]]))
        self.refused(NoTask, ([[], [-1, -1]], [[]]))
        self.refused(NoTask, ([[2, 2], []], [[]]))
        self.refused(NoTask, ([[]], [[-1, -1]]))
        self.refused(NoTask, ([[]], [[1, 1]]))

    def test_the_number_that_stands_first_in_one_brood_decides(self):
        self.refused(Early, ([[0, 5], []], [[]]))
        self.refused(NoTask, ([[5, 0], []], [[]]))
        self.refused(Twice, ([[1, 1, 5], []], [[]]))
        self.refused(Twice, ([[1, 1, 0], []], [[]]))
        self.refused(Early, ([[1, 0, 1], []], [[]]))

    def test_the_task_that_stands_first_decides(self):
        self.refused(Early, ([[0], [5]], [[]]))
        self.refused(Early, ([[], [0], [-1], []], [[]]))
        self.refused(Twice, ([[2, 2], [-1], []], [[]]))
        self.refused(Twice, ([[2], [2], [0]], [[]]))
        self.refused(NoTask, ([[9], [0]], [[]]))

    def test_anything_of_brood_comes_ahead_of_starts(self):
        for starts in ([[-1]], [[9]], [[1, 1]], [[0], [0]]):
            self.refused(Early, ([[], [], [1]], starts))
            self.refused(Twice, ([[2], [2], []], starts))
            self.refused(NoTask, ([[], [], [3]], starts))

    def test_in_starts_the_worker_and_the_number_that_stand_first_decide(self):
        self.refused(Twice, ([[], []], [[0, 0, 9]]))
        self.refused(NoTask, ([[], []], [[0, 9, 0]]))
        self.refused(Twice, ([[], []], [[0, 0], [-1]]))
        self.refused(NoTask, ([[], []], [[-1], [0, 0]]))
        self.refused(Twice, ([[1], []], [[1], [2]]))
        self.refused(NoTask, ([[1], []], [[2], [1]]))

    def test_every_small_plan(self):
        seen = {}
        for plan in small_plans():
            due = refusal_due(plan)
            seen[due] = seen.get(due, 0) + 1
            try:
                answer = checked(plan)
            except YardError as error:
                self.assertIs(type(error), due, plan)
            else:
                self.assertIsNone(due, plan)
                self.assertEqual(answer, plan)
        for kind in (None, NoTask, Early, Twice):
            self.assertGreater(seen[kind], 5)


class ComingTest(unittest.TestCase):
    def comes(self, plan, tasks):
        before = copy.deepcopy(plan)
        for _ in range(2):
            answer = coming(plan)
            self.assertEqual(answer, tasks)
            self.assertIs(type(answer), list)
            for task in answer:
                self.assertIs(type(task), int)
            self.assertEqual(plan, before)
            # What is told is the asker's own, so this may not show the second time.
            answer.append(9)

    def test_none(self):
        self.comes(([], [[]]), [])
        self.comes(([[]], [[]]), [])
        self.comes(([[1], []], [[], []]), [])

    def test_of_starts_alone(self):
        self.comes(([[], [], [], []], [[3, 0], [2]]), [0, 2, 3])

    def test_of_tasks_that_come_several_deep(self):
        self.comes(([[1], [2], [3], [4], []], [[0]]), [0, 1, 2, 3, 4])
        self.comes(([[4], [], [3], [], [5], []], [[0], [2]]), [0, 2, 3, 4, 5])
        self.comes(([[3, 1], [], [], [5, 4], [], []], [[2], [0]]), [0, 1, 2, 3, 4, 5])

    def test_a_task_that_stands_nowhere_does_not_come(self):
        self.comes(([[], [], []], [[2]]), [2])

    def test_what_comes_of_one_that_does_not_come_does_not_come(self):
        self.comes(([[1], [], [3], [4], []], [[0]]), [0, 1])
        self.comes(([[1], [2], [3], []], [[]]), [])
        self.comes(([[2], [3], [4], [], [], []], [[1]]), [1, 3])

    def test_in_starts_in_the_middle_of_a_brood_that_does_not_come(self):
        self.comes(([[1], [], [3], []], [[2]]), [2, 3])

    def test_rising_whatever_the_order_of_the_lists(self):
        self.comes(([[5, 2], [], [4, 3], [], [], []], [[1, 0]]), [0, 1, 2, 3, 4, 5])
        self.comes(([[], [], [], []], [[3], [2], [1], [0]]), [0, 1, 2, 3])

    def test_200_tasks_in_one_chain(self):
        brood = [[task + 1] for task in range(199)] + [[]]
        self.comes((brood, [[0]]), list(range(200)))
        self.comes((brood, [[], []]), [])
        brood = [[task + 1] for task in range(98)] + [[]] + [[task + 1] for task in range(99, 199)] + [[]]
        self.comes((brood, [[], [99]]), list(range(99, 200)))

    def test_200_tasks_in_one_row_and_in_one_brood(self):
        self.comes(([[] for _ in range(200)], [list(range(199, -1, -1))]), list(range(200)))
        self.comes(([list(range(199, 0, -1))] + [[] for _ in range(199)], [[0]]), list(range(200)))

    def test_a_change_of_the_plan_changes_no_answer(self):
        plan = ([[1], [], []], [[0]])
        answer = coming(plan)
        plan[1][0].append(2)
        self.assertEqual(answer, [0, 1])
        self.assertEqual(coming(plan), [0, 1, 2])

    def test_every_small_good_plan(self):
        many = 0
        for plan in good_three_task_plans():
            many += 1
            self.assertEqual(coming(plan), readings.second_coming(plan), plan)
        self.assertGreater(many, 50)


if __name__ == "__main__":
    unittest.main()
