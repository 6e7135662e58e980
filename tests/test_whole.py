"""Points 1 and 14: what holds of every weaving, of the program as a whole."""

import copy
import unittest

import readings
from stealyard.events import are_right, done_by, undone
from stealyard.plans import checked, coming
from stealyard.steps import stepped
from stealyard.weavings import finished, woven
from stealyard.yards import is_over, started

# Each is small enough that every weaving of it can be gone through.
SMALL = [
    ([], [[]]),
    ([[1, 2], [3], [], []], [[0]]),
    ([[]], [[0], []]),
    ([[1], []], [[], [0]]),
    ([[], []], [[0, 1], []]),
    ([[], []], [[1], [0]]),
    ([[], [], [], []], [[0, 1, 2, 3], []]),
    ([[1, 2], [3], [], []], [[0], []]),
    ([[2], [3], [], []], [[0], [1]]),
    ([[2, 3], [], [4], [], []], [[1, 0], []]),
    ([[], [2], []], [[0, 1], []]),
    ([[]], [[], [0], []]),
    ([[], []], [[0, 1], [], []]),
    ([[1], []], [[0], [], []]),
    ([[], []], [[0], [1], []]),
    ([[1, 2], [], []], [[0], [], []]),
    ([[], [], []], [[], [0, 1, 2], []]),
    ([[2, 3], [4], [], [5], [], []], [[0], [1]]),
    ([[]], [[0], [], [], []]),
]


class EveryWeavingTest(unittest.TestCase):
    """Through every yard that may come of a plan, with all that its events may have told by then."""

    def go_on(self, plan, yard, plain):
        """What may come of one step of any worker; each event may come next by plain rows."""
        found = []
        for worker, state in enumerate(yard[1]):
            if state != ("rests",):
                behind, event = stepped(plan, yard, worker)
                told = plain if event is None else readings.plain_after(plan, plain, event)
                self.assertIsNotNone(told, (plan, yard, event))
                found.append((behind, told))
        return found

    def check_end(self, plan, yard, plain):
        rows, hands, done = plain
        self.assertIs(is_over(yard), True)
        self.assertEqual([task for task, _ in done], readings.second_coming(plan))
        self.assertEqual(set(hands), {"rests"})
        for (head, tail, places), row in zip(yard[0], rows):
            self.assertEqual((places[head:max(tail, 0)], row), ((), ()))
            self.assertEqual(head, tail)

    def test_every_weaving_of_small_plans(self):
        for plan in SMALL:
            first = (started(plan), readings.plain_start(plan))
            seen, todo, ends = {first}, [first], 0
            while todo:
                yard, plain = todo.pop()
                found = self.go_on(plan, yard, plain)
                if not found:
                    self.check_end(plan, yard, plain)
                    ends += 1
                for pair in found:
                    if pair not in seen:
                        seen.add(pair)
                        todo.append(pair)
            self.assertGreater(ends, 0)
            self.assertGreater(len(seen), 3)


class ManyWeavingsTest(unittest.TestCase):
    def check_whole(self, plan, yard, events):
        """All rest: the events are right by plain rows, each task was done once, nothing stands anywhere."""
        self.assertIs(is_over(yard), True)
        self.assertTrue(readings.second_are_right(plan, events))
        self.assertIs(are_right(plan, events), True)
        comes = readings.second_coming(plan)
        done = [event for event in events if event[0] == "done"]
        self.assertEqual(sorted(event[2] for event in done), comes)
        self.assertEqual(done_by(events), {event[2]: event[1] for event in done})
        self.assertEqual((undone(plan, events), coming(plan)), ([], comes))
        for head, tail, _ in yard[0]:
            self.assertGreaterEqual(head, tail)
        rests = [event[1] for event in events if event[0] == "rests"]
        self.assertEqual(sorted(rests), list(range(len(plan[1]))))

    def check_broken_off(self, plan, events):
        self.assertTrue(readings.second_are_right(plan, events))
        self.assertIs(are_right(plan, events), True)
        done = sorted(done_by(events))
        self.assertEqual(sorted(done + undone(plan, events)), readings.second_coming(plan))

    def test_all_rest_behind_many_weavings(self):
        for plan in readings.PLANS + list(readings.many_plans(80, 14, 6)):
            plan = checked(plan)
            for weaving in readings.weavings_of(plan, 8, 25 * len(plan[1])):
                yard, first = woven(plan, started(plan), weaving)
                self.check_broken_off(plan, first)
                behind, second = finished(plan, yard)
                self.check_whole(plan, behind, first + second)

    def test_each_worker_by_itself_one_behind_another(self):
        for plan in readings.PLANS + list(readings.many_plans(20, 14, 6)):
            crew = len(plan[1])
            for turned in range(crew):
                order = list(range(turned, crew)) + list(range(turned))
                enough = (len(plan[0]) + 1) * (12 + 2 * crew)
                weaving = [worker for worker in order for _ in range(enough)]
                yard, events = woven(plan, started(plan), weaving)
                self.check_whole(plan, yard, events)

    def test_weavings_that_let_one_fall_behind(self):
        # One does a single step in a long while, so what it saw is old when it goes by it.
        for plan in readings.PLANS + list(readings.many_plans(20, 10, 4)):
            crew = len(plan[1])
            for slow in range(crew):
                others = [worker for worker in range(crew) if worker != slow]
                for times in (1, 3, 8):
                    weaving = ([slow] + others * times) * (6 + len(plan[0]))
                    yard, first = woven(plan, started(plan), weaving)
                    behind, second = finished(plan, yard)
                    self.check_whole(plan, behind, first + second)

    def test_as_many_tasks_and_workers_as_there_may_be(self):
        brood = [[] for _ in range(200)]
        for task in range(1, 200):
            brood[(task - 1) // 3].append(task)
        plan = checked((brood, [[] for _ in range(11)] + [[0]]))
        for weaving in readings.weavings_of(plan, 3, 900):
            yard, first = woven(plan, started(plan), weaving)
            behind, second = finished(plan, yard)
            self.check_whole(plan, behind, first + second)
            self.assertGreater(len(set(done_by(first + second).values())), 1)


class NothingKeptTest(unittest.TestCase):
    def test_calls_of_several_plans_by_turns(self):
        plans = [copy.deepcopy(plan) for plan in readings.PLANS]
        alone = []
        for plan in plans:
            yard = started(plan)
            behind, events = finished(plan, yard)
            alone.append((yard, behind, events, done_by(events), coming(plan)))
        yards = [started(plan) for plan in plans]
        events = [[] for _ in plans]
        while not all(is_over(yard) for yard in yards):
            for at, plan in enumerate(plans):
                for worker, state in enumerate(yards[at][1]):
                    if state != ("rests",):
                        yards[at], event = stepped(plan, yards[at], worker)
                        events[at] += [] if event is None else [event]
        for at, plan in enumerate(plans):
            told = (started(plan), yards[at], events[at], done_by(events[at]), coming(plan))
            self.assertEqual(told, alone[at])
        self.assertEqual(plans, readings.PLANS)

    def test_a_yard_may_be_gone_on_from_again(self):
        for plan in readings.PLANS[:10]:
            weaving = next(readings.weavings_of(plan, 1, 12 * len(plan[1])))
            yard, _ = woven(plan, started(plan), weaving)
            kept = copy.deepcopy(yard)
            answers = [finished(plan, yard), woven(plan, yard, weaving)]
            for _ in range(2):
                self.assertEqual([finished(plan, yard), woven(plan, yard, weaving)], answers)
            self.assertEqual(yard, kept)

    def test_a_change_of_what_is_told_changes_nothing_asked_later(self):
        plan = ([[1, 2], [], []], [[0], []])
        kept = copy.deepcopy(plan)
        yard, events = finished(plan, started(plan))
        told = copy.deepcopy((yard, events, done_by(events), undone(plan, events[:3]), coming(plan)))
        for answer in (coming(plan), undone(plan, events[:3]), finished(plan, started(plan))[1]):
            answer.clear()
        done_by(events).clear()
        woven(plan, started(plan), [0, 1, 0, 0])[1].append(0)
        again, more = finished(plan, started(plan))
        self.assertEqual((again, more, done_by(more), undone(plan, more[:3]), coming(plan)), told)
        self.assertEqual(plan, kept)

    def test_what_was_told_stays_behind_changes_of_the_plan(self):
        plan = ([[1, 2], [], []], [[0], []])
        yard = started(plan)
        middle, first = woven(plan, yard, [0] * 6)
        told = [checked(plan), coming(plan), yard, middle, first, undone(plan, first)]
        kept = copy.deepcopy(told)
        plan[0][0].clear()
        plan[1][1].append(2)
        plan[1].append([1])
        self.assertEqual(told, kept)


if __name__ == "__main__":
    unittest.main()
