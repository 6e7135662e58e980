"""Points 10 and 11: woven and finished."""

import copy
import inspect
import unittest

import readings
from stealyard import weavings
from stealyard.errors import Early, NoCrew, NoStep, NoTask, NoWorker, TooMany, Twice, YardError
from stealyard.steps import stepped
from stealyard.weavings import finished, woven
from stealyard.yards import is_over, started

REFUSALS = [TooMany, NoCrew, NoTask, Early, Twice, NoWorker, NoStep]
TWO = ([[1, 2], [], []], [[0], []])


def one_by_one(plan, yard, weaving):
    """The steps of a weaving by themselves, without those of workers that rest."""
    events = []
    for worker in weaving:
        if yard[1][worker] == ("rests",):
            continue
        yard, event = stepped(plan, yard, worker)
        if event is not None:
            events.append(event)
    return yard, events


def by_rounds(plan, yard):
    events = []
    while True:
        for worker in range(len(yard[1])):
            if yard[1][worker] != ("rests",):
                yard, event = stepped(plan, yard, worker)
                events += [] if event is None else [event]
        if all(state == ("rests",) for state in yard[1]):
            return yard, events


class WeavingCase(unittest.TestCase):
    def check_pair(self, answer, workers):
        self.assertIs(type(answer), tuple)
        yard, events = answer
        readings.check_yard_kinds(self, yard, workers)
        self.assertIs(type(events), list)
        for event in events:
            readings.check_event_kinds(self, event)

    def weaves(self, plan, yard, weaving):
        """The answer of woven, held to the steps one by one; what is handed in stays."""
        before = copy.deepcopy((plan, yard, weaving))
        expected = one_by_one(plan, yard, weaving)
        for _ in range(2):
            answer = woven(plan, yard, weaving)
            self.assertEqual(answer, expected)
            self.assertEqual((plan, yard, weaving), before)
            self.check_pair(answer, len(plan[1]))
            kept = copy.deepcopy(answer)
            # The list is the asker's own, so this may not show the second time.
            answer[1].append(("own", 0, 0))
        return kept

    def finishes(self, plan, yard):
        before = copy.deepcopy((plan, yard))
        expected = (yard, []) if is_over(yard) else by_rounds(plan, yard)
        for _ in range(2):
            answer = finished(plan, yard)
            self.assertEqual(answer, expected)
            self.assertIs(is_over(answer[0]), True)
            self.assertEqual((plan, yard), before)
            self.check_pair(answer, len(plan[1]))
            kept = copy.deepcopy(answer)
            answer[1].append(("own", 0, 0))
        return kept


class InterfaceTest(unittest.TestCase):
    def test_names_and_arguments(self):
        for function, arguments in (
            (weavings.woven, ["plan", "yard", "weaving"]),
            (weavings.finished, ["plan", "yard"]),
        ):
            self.assertEqual(list(inspect.signature(function).parameters), arguments)
            self.assertEqual(function.__module__, "stealyard.weavings")


class WovenTest(WeavingCase):
    def test_told_by_hand(self):
        yard, events = self.weaves(TWO, started(TWO), [0, 1, 0, 0, 1, 0, 0, 1, 0, 1, 1, 1, 1, 0])
        self.assertEqual(events, [("own", 0, 0), ("put", 0, 1), ("taken", 1, 0, 1)])
        self.assertEqual(yard, (
            ((2, 2, (0, 1, 2)), (0, 0, ())),
            (("wrote", 0, 1), ("holds", 1, 0)),
        ))

    def test_the_empty_one(self):
        for plan in readings.PLANS:
            yard = started(plan)
            self.assertEqual(self.weaves(plan, yard, []), (yard, []))
            over, _ = finished(plan, yard)
            self.assertEqual(self.weaves(plan, over, []), (over, []))

    def test_of_one_number(self):
        for plan in readings.PLANS:
            yard = started(plan)
            for worker in range(len(plan[1])):
                behind, event = stepped(plan, yard, worker)
                self.assertIsNone(event)
                self.assertEqual(self.weaves(plan, yard, [worker]), (behind, []))

    def test_an_event_that_stands_at_the_last_number(self):
        plan = ([[]], [[0]])
        self.assertEqual(self.weaves(plan, started(plan), [0, 0])[1], [])
        self.assertEqual(self.weaves(plan, started(plan), [0, 0, 0])[1], [("own", 0, 0)])

    def test_no_step_for_one_that_rests(self):
        plan = ([], [[], []])
        yard, events = self.weaves(plan, started(plan), [0] * 5)
        self.assertEqual(yard, (((0, 0, ()), (0, 0, ())), (("rests",), ("free",))))
        self.assertEqual(events, [("rests", 0)])
        self.assertEqual(self.weaves(plan, started(plan), [0] * 50), (yard, events))
        self.assertEqual(self.weaves(plan, yard, [0] * 9), (yard, []))
        behind, more = self.weaves(plan, yard, [0, 1, 0, 1, 0, 0, 1, 1, 0, 1, 0, 1, 0])
        self.assertEqual(behind, (((0, 0, ()), (0, 0, ())), (("rests",), ("rests",))))
        self.assertEqual(more, [("rests", 1)])
        self.assertEqual(self.weaves(plan, behind, [0, 1] * 9), (behind, []))

    def test_many_against_steps_one_by_one(self):
        for plan in readings.PLANS + list(readings.many_plans(30, 8, 4)):
            for weaving in readings.weavings_of(plan, 4, 30 * len(plan[1])):
                self.weaves(plan, started(plan), weaving)

    def test_in_two_parts_the_same_as_the_whole(self):
        for plan in readings.PLANS[:8]:
            weaving = next(readings.weavings_of(plan, 1, 25 * len(plan[1])))
            whole = woven(plan, started(plan), weaving)
            for at in range(len(weaving) + 1):
                middle, first = woven(plan, started(plan), weaving[:at])
                behind, second = woven(plan, middle, weaving[at:])
                self.assertEqual((behind, first + second), whole)


class WovenRefusalTest(WeavingCase):
    def refused(self, plan, yard, weaving):
        before = copy.deepcopy((plan, yard, weaving))
        for _ in range(2):
            with self.assertRaises(YardError) as caught:
                woven(plan, yard, weaving)
            self.assertIs(type(caught.exception), NoWorker)
            self.assertIsInstance(caught.exception, ValueError)
            told = [kind for kind in REFUSALS if isinstance(caught.exception, kind)]
            self.assertEqual(told, [NoWorker])
            self.assertEqual((plan, yard, weaving), before)

    def test_a_number_that_is_none_of_a_worker_at_any_place(self):
        weaving = [0, 1, 0, 0, 1, 0, 0, 1]
        expected = woven(TWO, started(TWO), weaving)
        for number in (-1, -2, -3, 2, 3, 12, 10 ** 20, -10 ** 20):
            for at in range(len(weaving) + 1):
                self.refused(TWO, started(TWO), weaving[:at] + [number] + weaving[at:])
                self.assertEqual(woven(TWO, started(TWO), weaving), expected)
            self.refused(TWO, started(TWO), [number])
            self.refused(TWO, started(TWO), [number] * 5)

    def test_the_number_of_workers_itself(self):
        for crew in range(1, 13):
            plan = ([], [[] for _ in range(crew)])
            self.weaves(plan, started(plan), [crew - 1] * 4 + [0])
            self.refused(plan, started(plan), [crew - 1, crew])
            self.refused(plan, started(plan), [0, -1])
            self.refused(plan, started(plan), [0, -crew])

    def test_also_where_all_or_some_rest(self):
        over, _ = finished(TWO, started(TWO))
        self.refused(TWO, over, [2])
        self.refused(TWO, over, [0, 1, -1])
        plan = ([], [[], []])
        one_rests, _ = woven(plan, started(plan), [0] * 5)
        self.refused(plan, one_rests, [0, 0, 2])
        self.refused(plan, one_rests, [0, -1, 1])

    def test_nothing_is_done_ahead_of_it(self):
        done = []

        def spied(plan, yard, worker):
            done.append(worker)
            return stepped(plan, yard, worker)

        kept = weavings.stepped
        weavings.stepped = spied
        try:
            self.refused(TWO, started(TWO), [0, 1, 0, 0, 2])
            self.assertEqual(done, [])
            woven(TWO, started(TWO), [0, 1, 0])
            self.assertEqual(done, [0, 1, 0])
        finally:
            weavings.stepped = kept


class FinishedTest(WeavingCase):
    def test_told_by_hand(self):
        plan = ([], [[]])
        self.assertEqual(
            self.finishes(plan, started(plan)), ((((0, 0, ()),), (("rests",),)), [("rests", 0)])
        )
        plan = ([[], []], [[0, 1], []])
        yard, events = self.finishes(plan, started(plan))
        self.assertEqual(yard, (((1, 1, (0, 1)), (0, 0, ())), (("rests",), ("rests",))))
        # Worker 1 looks while worker 0 has lowered its tail to the head, and so sees nothing.
        self.assertEqual(events, [
            ("own", 0, 1), ("done", 0, 1), ("rests", 1), ("own", 0, 0), ("done", 0, 0), ("rests", 0),
        ])

    def test_in_a_round_the_workers_go_from_0_on(self):
        # Each one takes its own in the third round.
        plan = ([[], [], [], []], [[3], [2], [1], [0]])
        _, events = self.finishes(plan, started(plan))
        self.assertEqual(events[:4], [("own", 0, 3), ("own", 1, 2), ("own", 2, 1), ("own", 3, 0)])

    def test_against_steps_by_rounds(self):
        for plan in readings.PLANS + list(readings.many_plans(60, 12, 6)):
            self.finishes(plan, started(plan))

    def test_on_from_the_middle_of_weavings(self):
        for plan in readings.PLANS[:9] + list(readings.many_plans(10, 8, 4)):
            crew = len(plan[1])
            for at, weaving in enumerate(readings.weavings_of(plan, 6, 20 * crew)):
                yard, _ = woven(plan, started(plan), weaving[:(4 * at + 1) * crew])
                self.finishes(plan, yard)

    def test_where_some_rest_at_first(self):
        plan = ([[], []], [[], [0, 1], []])
        yard, _ = woven(plan, started(plan), [1] * 9 + [2] * 7)
        self.assertEqual([state[0] for state in yard[1]].count("rests"), 1)
        self.finishes(plan, yard)

    def test_where_all_rest_that_yard_and_no_events(self):
        for plan in readings.PLANS:
            over, _ = finished(plan, started(plan))
            self.assertEqual(self.finishes(plan, over), (over, []))

    def test_200_tasks_and_12_workers(self):
        chain = [[task + 1] for task in range(199)] + [[]]
        wide = [list(range(1, 200))] + [[] for _ in range(199)]
        none = [[] for _ in range(200)]
        for plan in (
            (chain, [[0]] + [[] for _ in range(11)]),
            (wide, [[]] * 11 + [[0]]),
            (none, [list(range(200))] + [[] for _ in range(11)]),
            (none, [list(range(at, 200, 12)) for at in range(12)]),
        ):
            yard, events = finished(plan, started(plan))
            self.assertIs(is_over(yard), True)
            self.assertEqual(sorted(event[2] for event in events if event[0] == "done"), list(range(200)))


if __name__ == "__main__":
    unittest.main()
