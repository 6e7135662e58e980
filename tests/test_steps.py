"""Points 5, 6, 8 and 9: stepped."""

import copy
import inspect
import unittest

import readings
from stealyard import steps
from stealyard.errors import Early, NoCrew, NoStep, NoTask, NoWorker, TooMany, Twice, YardError
from stealyard.steps import stepped
from stealyard.yards import started

REFUSALS = [TooMany, NoCrew, NoTask, Early, Twice, NoWorker, NoStep]


class InterfaceTest(unittest.TestCase):
    def test_name_and_arguments(self):
        self.assertEqual(list(inspect.signature(steps.stepped).parameters), ["plan", "yard", "worker"])
        self.assertEqual(steps.stepped.__module__, "stealyard.steps")


class StepCase(unittest.TestCase):
    def one_step(self, plan, yard, worker):
        """The answer to a step, asked for twice; its kinds hold, and what is handed in stays."""
        plan_before, yard_before = copy.deepcopy(plan), copy.deepcopy(yard)
        answer = stepped(plan, yard, worker)
        self.assertEqual(stepped(plan, yard, worker), answer)
        self.assertEqual((plan, yard), (plan_before, yard_before))
        self.assertIs(type(answer), tuple)
        behind, event = answer
        readings.check_yard_kinds(self, behind, len(plan[1]))
        if event is not None:
            readings.check_event_kinds(self, event)
        return behind, event

    def walk(self, plan, lines, yard=None):
        """Go on by steps. A line is a worker, the state behind, the event or None, and the rows that change."""
        yard = started(plan) if yard is None else yard
        for at, (worker, state, event, *changed) in enumerate(lines):
            rows, states = list(yard[0]), list(yard[1])
            for number, row in changed:
                rows[number] = row
            states[worker] = state
            with self.subTest(line=at, was=yard[1][worker]):
                behind, brought = self.one_step(plan, yard, worker)
                self.assertEqual(behind, (tuple(rows), tuple(states)))
                self.assertEqual(brought, event)
            yard = (tuple(rows), tuple(states))
        return yard

    def stepped_on(self, plan, weaving):
        yard = started(plan)
        for worker in weaving:
            yard, _ = stepped(plan, yard, worker)
        return yard


class OwnRowTest(StepCase):
    """The states in which a worker goes by its own row alone."""

    def test_one_worker_from_the_first_step_to_the_last(self):
        self.walk(([[1, 2], [], [3], []], [[0]]), [
            # Tail and head are equal: the last one is taken over the head.
            (0, ("lowered",), None, (0, (0, 0, (0,)))),
            (0, ("last", 0), None),
            (0, ("mends", 1, 0), ("own", 0, 0), (0, (1, 0, (0,)))),
            (0, ("holds", 0, 0), None, (0, (1, 1, (0,)))),
            # Its brood is written a place more each.
            (0, ("wrote", 0, 0), None, (0, (1, 1, (0, 1)))),
            (0, ("holds", 0, 1), ("put", 0, 1), (0, (1, 2, (0, 1)))),
            (0, ("wrote", 0, 1), None, (0, (1, 2, (0, 1, 2)))),
            (0, ("holds", 0, 2), ("put", 0, 2), (0, (1, 3, (0, 1, 2)))),
            (0, ("free",), ("done", 0, 0)),
            # The head is below the tail: the one at the tail is taken.
            (0, ("lowered",), None, (0, (1, 2, (0, 1, 2)))),
            (0, ("holds", 2, 0), ("own", 0, 2)),
            # What comes of it is written in its stead.
            (0, ("wrote", 2, 0), None, (0, (1, 2, (0, 1, 3)))),
            (0, ("holds", 2, 1), ("put", 0, 3), (0, (1, 3, (0, 1, 3)))),
            (0, ("free",), ("done", 0, 2)),
            (0, ("lowered",), None, (0, (1, 2, (0, 1, 3)))),
            (0, ("holds", 3, 0), ("own", 0, 3)),
            (0, ("free",), ("done", 0, 3)),
            (0, ("lowered",), None, (0, (1, 1, (0, 1, 3)))),
            (0, ("last", 1), None),
            (0, ("mends", 2, 1), ("own", 0, 1), (0, (2, 1, (0, 1, 3)))),
            (0, ("holds", 1, 0), None, (0, (2, 2, (0, 1, 3)))),
            (0, ("free",), ("done", 0, 1)),
            # Nothing stands there: the head is above the tail.
            (0, ("lowered",), None, (0, (2, 1, (0, 1, 3)))),
            (0, ("mends", 2, None), None),
            (0, ("rests",), ("rests", 0), (0, (2, 2, (0, 1, 3)))),
        ])

    def test_one_worker_with_nothing_at_all(self):
        self.walk(([], [[]]), [
            (0, ("lowered",), None, (0, (0, -1, ()))),
            (0, ("mends", 0, None), None),
            (0, ("rests",), ("rests", 0), (0, (0, 0, ()))),
        ])

    def test_mends_with_nothing_and_more_workers_looks(self):
        self.walk(([], [[], []]), [
            (1, ("lowered",), None, (1, (0, -1, ()))),
            (1, ("mends", 0, None), None),
            (1, ("looks", 1), None, (1, (0, 0, ()))),
        ])

    def test_a_brood_with_nobody_else_is_put_in_its_order(self):
        yard = self.walk(([[3, 1, 2], [], [], []], [[0]]), [
            (0, ("lowered",), None, (0, (0, 0, (0,)))),
            (0, ("last", 0), None),
            (0, ("mends", 1, 0), ("own", 0, 0), (0, (1, 0, (0,)))),
            (0, ("holds", 0, 0), None, (0, (1, 1, (0,)))),
            (0, ("wrote", 0, 0), None, (0, (1, 1, (0, 3)))),
            (0, ("holds", 0, 1), ("put", 0, 3), (0, (1, 2, (0, 3)))),
            (0, ("wrote", 0, 1), None, (0, (1, 2, (0, 3, 1)))),
            (0, ("holds", 0, 2), ("put", 0, 1), (0, (1, 3, (0, 3, 1)))),
            (0, ("wrote", 0, 2), None, (0, (1, 3, (0, 3, 1, 2)))),
            (0, ("holds", 0, 3), ("put", 0, 2), (0, (1, 4, (0, 3, 1, 2)))),
            (0, ("free",), ("done", 0, 0)),
        ])
        self.assertEqual(yard, (((1, 4, (0, 3, 1, 2)),), (("free",),)))

    def test_a_place_in_whose_stead_is_written_keeps_those_behind_it(self):
        # Two were taken of the end, so places behind the tail are left over.
        plan = ([[], [3], [], []], [[0, 1, 2]])
        yard = self.stepped_on(plan, [0] * 3 + [0] * 2)
        self.assertEqual(yard, (((0, 1, (0, 1, 2)),), (("holds", 1, 0),)))
        self.walk(plan, [
            (0, ("wrote", 1, 0), None, (0, (0, 1, (0, 3, 2)))),
            (0, ("holds", 1, 1), ("put", 0, 3), (0, (0, 2, (0, 3, 2)))),
        ], yard)

    def test_lowered_looks_at_the_head_anew(self):
        # Worker 1 takes a task between the two steps, and so the heads differ.
        plan = ([[], []], [[0, 1], []])
        to_tries = [1, 1, 1, 1, 1, 1]
        yard = self.stepped_on(plan, to_tries + [0])
        self.assertEqual(yard, (((0, 1, (0, 1)), (0, 0, ())), (("lowered",), ("tries", 1, 0, 0))))
        self.walk(plan, [(0, ("holds", 1, 0), ("own", 0, 1))], yard)
        self.walk(plan, [
            (1, ("holds", 0, 0), ("taken", 1, 0, 0), (0, (1, 1, (0, 1)))),
            (0, ("last", 1), None),
        ], yard)

    def test_lowered_behind_the_taking_of_the_last_one(self):
        plan = ([[]], [[0], []])
        yard = self.stepped_on(plan, [1] * 6 + [0])
        self.walk(plan, [
            (1, ("holds", 0, 0), ("taken", 1, 0, 0), (0, (1, 0, (0,)))),
            (0, ("mends", 1, None), None),
            (0, ("looks", 1), None, (0, (1, 1, (0,)))),
        ], yard)

    def test_last_where_the_head_is_not_the_one_that_was_seen(self):
        plan = ([[]], [[0], []])
        yard = self.stepped_on(plan, [1] * 6 + [0, 0])
        self.assertEqual(yard, (((0, 0, (0,)), (0, 0, ())), (("last", 0), ("tries", 1, 0, 0))))
        self.walk(plan, [
            (1, ("holds", 0, 0), ("taken", 1, 0, 0), (0, (1, 0, (0,)))),
            (0, ("mends", 1, None), None),
            (0, ("looks", 1), None, (0, (1, 1, (0,)))),
        ], yard)

    def test_last_where_it_is_while_another_one_tries(self):
        plan = ([[]], [[0], []])
        yard = self.stepped_on(plan, [1] * 6 + [0, 0])
        self.walk(plan, [
            (0, ("mends", 1, 0), ("own", 0, 0), (0, (1, 0, (0,)))),
            (1, ("looks", 1), None),
            (0, ("holds", 0, 0), None, (0, (1, 1, (0,)))),
        ], yard)

    def test_task_0_is_a_task_and_not_none(self):
        plan = ([[]], [[0], []])
        yard = self.stepped_on(plan, [0, 0, 0])
        self.assertEqual(yard[1][0], ("mends", 1, 0))
        self.walk(plan, [(0, ("holds", 0, 0), None, (0, (1, 1, (0,))))], yard)


class OtherRowTest(StepCase):
    """The states in which a worker goes by another one's row."""

    def test_one_takes_the_first_of_another_ones_row(self):
        self.walk(([[], [], [3], []], [[2, 0, 1], []]), [
            (1, ("lowered",), None, (1, (0, -1, ()))),
            (1, ("mends", 0, None), None),
            (1, ("looks", 1), None, (1, (0, 0, ()))),
            (1, ("seen", 1, 0), None),
            (1, ("reads", 1, 0), None),
            (1, ("tries", 1, 0, 2), None),
            (1, ("holds", 2, 0), ("taken", 1, 0, 2), (0, (1, 3, (2, 0, 1)))),
            # What comes of it goes to the taker's own row.
            (1, ("wrote", 2, 0), None, (1, (0, 0, (3,)))),
            (1, ("holds", 2, 1), ("put", 1, 3), (1, (0, 1, (3,)))),
            (1, ("free",), ("done", 1, 2)),
        ])

    def test_seen_with_nothing_there_goes_to_the_next_and_rests_behind_the_last(self):
        self.walk(([], [[], [], []]), [
            (1, ("lowered",), None, (1, (0, -1, ()))),
            (1, ("mends", 0, None), None),
            (1, ("looks", 1), None, (1, (0, 0, ()))),
            (1, ("seen", 1, 0), None),
            (1, ("looks", 2), None),
            (1, ("seen", 2, 0), None),
            (1, ("rests",), ("rests", 1)),
        ])

    def test_seen_with_two_workers_rests_at_once(self):
        self.walk(([], [[], []]), [
            (0, ("lowered",), None, (0, (0, -1, ()))),
            (0, ("mends", 0, None), None),
            (0, ("looks", 1), None, (0, (0, 0, ()))),
            (0, ("seen", 1, 0), None),
            (0, ("rests",), ("rests", 0)),
        ])

    def test_seen_while_the_tail_is_below_the_head(self):
        # The other one has lowered its tail below its head.
        plan = ([], [[], [], []])
        yard = self.stepped_on(plan, [0, 0, 0, 0, 1])
        self.assertEqual(yard[0][1], (0, -1, ()))
        self.walk(plan, [(0, ("looks", 2), None)], yard)

    def test_seen_goes_by_the_head_that_was_seen_and_the_tail_of_now(self):
        # Worker 1 saw head 0; by now it is 1, as is the tail.
        plan = ([[]], [[0], []])
        yard = self.stepped_on(plan, [1] * 4 + [0] * 4)
        self.assertEqual(yard, (((1, 1, (0,)), (0, 0, ())), (("holds", 0, 0), ("seen", 1, 0))))
        self.walk(plan, [
            (1, ("reads", 1, 0), None),
            (1, ("tries", 1, 0, 0), None),
            (1, ("looks", 1), None),
            (1, ("seen", 1, 1), None),
            (1, ("rests",), ("rests", 1)),
        ], yard)

    def test_seen_goes_by_the_tail_of_now_when_it_has_risen(self):
        plan = ([[1], []], [[0], []])
        yard = self.stepped_on(plan, [0] * 4 + [1] * 4)
        self.assertEqual(yard[1], (("holds", 0, 0), ("seen", 1, 1)))
        self.walk(plan, [
            (0, ("wrote", 0, 0), None, (0, (1, 1, (0, 1)))),
            (0, ("holds", 0, 1), ("put", 0, 1), (0, (1, 2, (0, 1)))),
            (1, ("reads", 1, 1), None),
            (1, ("tries", 1, 1, 1), None),
            (1, ("holds", 1, 0), ("taken", 1, 0, 1), (0, (2, 2, (0, 1)))),
        ], yard)

    def test_written_but_not_put_is_not_seen(self):
        plan = ([[1], []], [[0], []])
        yard = self.stepped_on(plan, [0] * 5 + [1] * 4)
        self.assertEqual(yard[1], (("wrote", 0, 0), ("seen", 1, 1)))
        self.walk(plan, [(1, ("rests",), ("rests", 1))], yard)

    def test_tries_where_the_head_is_another_one_looks_again_at_the_same(self):
        # Both, 1 and 2, try for the first of worker 0's row, and 2 is ahead.
        plan = ([[], []], [[0, 1], [], []])
        yard = self.stepped_on(plan, [1] * 7 + [2] * 6)
        self.assertEqual(yard[1], (("free",), ("reads", 2, 0), ("tries", 1, 0, 0)))
        self.walk(plan, [
            (1, ("tries", 2, 0, 0), None),
            (2, ("holds", 0, 0), ("taken", 2, 0, 0), (0, (1, 2, (0, 1)))),
            (1, ("looks", 2), None),
            (1, ("seen", 2, 1), None),
            (1, ("reads", 2, 1), None),
            (1, ("tries", 2, 1, 1), None),
            (1, ("holds", 1, 0), ("taken", 1, 0, 1), (0, (2, 2, (0, 1)))),
        ], yard)

    def test_reads_a_place_that_is_taken_by_then(self):
        plan = ([[1], []], [[0], []])
        yard = self.stepped_on(plan, [1] * 5 + [0] * 6)
        self.assertEqual(yard, (
            ((1, 2, (0, 1)), (0, 0, ())),
            (("holds", 0, 1), ("reads", 1, 0)),
        ))
        self.walk(plan, [
            (1, ("tries", 1, 0, 0), None),
            (1, ("looks", 1), None),
            (1, ("seen", 1, 1), None),
        ], yard)

    def test_reads_what_stands_there_by_now(self):
        # The brood of 1 was written in its stead behind the first look.
        plan = ([[], [2], []], [[0, 1], []])
        yard = self.stepped_on(plan, [1] * 6 + [0] * 5)
        self.assertEqual(yard, (
            ((0, 2, (0, 2)), (0, 0, ())),
            (("free",), ("tries", 1, 0, 0)),
        ))
        self.walk(plan, [
            (1, ("holds", 0, 0), ("taken", 1, 0, 0), (0, (1, 2, (0, 2)))),
            (1, ("free",), ("done", 1, 0)),
            (1, ("lowered",), None, (1, (0, -1, ()))),
            (1, ("mends", 0, None), None),
            (1, ("looks", 1), None, (1, (0, 0, ()))),
            (1, ("seen", 1, 1), None),
            (1, ("reads", 1, 1), None),
            (1, ("tries", 1, 1, 2), None),
            (1, ("holds", 2, 0), ("taken", 1, 0, 2), (0, (2, 2, (0, 2)))),
        ], yard)

    def test_the_other_one_of_each_look_goes_round(self):
        for crew in range(2, 13):
            for owner in range(crew):
                for worker in range(crew):
                    if worker == owner:
                        continue
                    starts = [[] for _ in range(crew)]
                    starts[owner] = [1, 0]
                    plan = ([[], []], starts)
                    k = (owner - worker) % crew
                    yard = self.stepped_on(plan, [worker] * (3 + 2 * (k - 1)))
                    self.walk(plan, [
                        (worker, ("seen", k, 0), None),
                        (worker, ("reads", k, 0), None),
                        (worker, ("tries", k, 0, 1), None),
                        (worker, ("holds", 1, 0), ("taken", worker, owner, 1), (owner, (1, 2, (1, 0)))),
                    ], yard)

    def test_the_last_look_of_each_worker_of_many(self):
        for crew in range(2, 13):
            plan = ([], [[] for _ in range(crew)])
            for worker in range(crew):
                yard = self.stepped_on(plan, [worker] * (2 * crew))
                self.assertEqual(yard[1][worker], ("seen", crew - 1, 0))
                self.walk(plan, [(worker, ("rests",), ("rests", worker))], yard)


class RefusalTest(StepCase):
    def refused(self, error, plan, yard, worker):
        before = copy.deepcopy((plan, yard))
        for _ in range(2):
            with self.assertRaises(YardError) as caught:
                stepped(plan, yard, worker)
            self.assertIs(type(caught.exception), error)
            self.assertIsInstance(caught.exception, ValueError)
            told = [kind for kind in REFUSALS if isinstance(caught.exception, kind)]
            self.assertEqual(told, [error])
            self.assertEqual((plan, yard), before)

    def test_no_worker(self):
        for crew in (1, 2, 3, 12):
            plan = ([[]], [[0]] + [[] for _ in range(crew - 1)])
            yard = started(plan)
            resting = self.stepped_on(([], plan[1][1:] + [[]]), [0] * (3 if crew == 1 else 2 * crew + 1))
            self.assertEqual(resting[1][0], ("rests",))
            for number in (-1, -2, -crew, -crew - 1, crew, crew + 1, 200, 10 ** 20, -10 ** 20):
                self.refused(NoWorker, plan, yard, number)
                self.refused(NoWorker, plan, resting, number)

    def test_no_step_of_one_that_rests(self):
        plan = ([], [[]])
        self.refused(NoStep, plan, self.stepped_on(plan, [0, 0, 0]), 0)
        plan = ([[]], [[], [0], []])
        yard = self.stepped_on(plan, [1] * 5 + [2] * 7)
        self.assertEqual(yard[1], (("free",), ("free",), ("rests",)))
        self.refused(NoStep, plan, yard, 2)

    def test_behind_a_refusal_another_worker_s_step_is_done(self):
        plan = ([[]], [[], [0], []])
        yard = self.stepped_on(plan, [1] * 5 + [2] * 7)
        for error, worker in ((NoStep, 2), (NoWorker, 3), (NoWorker, -1)):
            self.refused(error, plan, yard, worker)
            self.walk(plan, [(0, ("lowered",), None, (0, (0, -1, ())))], yard)
            self.walk(plan, [(1, ("lowered",), None, (1, (1, 0, (0,))))], yard)


class SecondReadingTest(StepCase):
    def test_every_step_of_many_weavings(self):
        seen = set()
        for plan in readings.PLANS + list(readings.many_plans(40, 10, 5)):
            crew = len(plan[1])
            for weaving in readings.weavings_of(plan, 7, 40 * crew):
                yard = started(plan)
                for worker in weaving:
                    if yard[1][worker] == ("rests",):
                        with self.assertRaises(NoStep):
                            stepped(plan, yard, worker)
                        continue
                    seen.add((yard[1][worker][0], yard[1][worker][-1] is None))
                    answer = stepped(plan, yard, worker)
                    self.assertEqual(answer, readings.second_step(plan, yard, worker))
                    yard = answer[0]
        self.assertEqual(len(seen), len(readings.WORDS))

    def test_kinds_all_along(self):
        for plan in readings.PLANS:
            weaving = list(readings.weavings_of(plan, 3, 60 * len(plan[1])))[2]
            yard = started(plan)
            for worker in weaving:
                if yard[1][worker] != ("rests",):
                    yard, _ = self.one_step(plan, yard, worker)


class AskersOwnTest(StepCase):
    def test_a_change_of_the_plan_changes_no_answer(self):
        plan = ([[1], [], []], [[0], []])
        yard = started(plan)
        first, _ = stepped(plan, yard, 0)
        plan[0][0].append(2)
        plan[1][1].append(2)
        self.assertEqual(yard, (((0, 1, (0,)), (0, 0, ())), (("free",), ("free",))))
        self.assertEqual(first, (((0, 0, (0,)), (0, 0, ())), (("lowered",), ("free",))))

    def test_the_plan_that_is_handed_in_is_the_one_that_counts(self):
        # Nothing is kept: the same yard, by another plan, goes on by that one.
        yard = (((1, 1, (0,)),), (("holds", 0, 0),))
        self.assertEqual(stepped(([[1], [], []], [[0]]), yard, 0)[0][0], ((1, 1, (0, 1)),))
        self.assertEqual(stepped(([[2], [], []], [[0]]), yard, 0)[0][0], ((1, 1, (0, 2)),))
        self.assertEqual(stepped(([[], [], []], [[0]]), yard, 0), ((yard[0], (("free",),)), ("done", 0, 0)))


if __name__ == "__main__":
    unittest.main()
