"""Points 12 to 14: are_right, done_by and undone."""

import copy
import inspect
import itertools
import unittest

import readings
from stealyard import events as module
from stealyard.events import are_right, done_by, undone
from stealyard.plans import coming
from stealyard.weavings import finished, woven
from stealyard.yards import started

# Task 4 stands nowhere.
PLAN = ([[1, 2], [], [3], [], []], [[0], []])
WHOLE = [
    ("own", 0, 0), ("put", 0, 1), ("taken", 1, 0, 1), ("put", 0, 2), ("done", 1, 1), ("done", 0, 0),
    ("own", 0, 2), ("rests", 1), ("put", 0, 3), ("done", 0, 2), ("own", 0, 3), ("done", 0, 3), ("rests", 0),
]
ROWS = ([[], [], [], [], []], [[0, 1, 2], [3, 4], []])


def every_event(workers, tasks):
    """Every event of these numbers."""
    found = [("rests", worker) for worker in workers]
    for worker, task in itertools.product(workers, tasks):
        found += [("own", worker, task), ("put", worker, task), ("done", worker, task)]
        found += [("taken", worker, other, task) for other in workers]
    return found


def changed(events, plan):
    """The events with one left out, told twice, two exchanged, and one in another's stead."""
    crew, many = len(plan[1]), len(plan[0])
    for at, event in enumerate(events):
        yield events[:at] + events[at + 1:]
        yield events[:at] + [event] + events[at:]
        for other in range(at):
            mixed = list(events)
            mixed[at], mixed[other] = mixed[other], mixed[at]
            yield mixed
        for stead in steads(event, crew, many):
            yield events[:at] + [stead] + events[at + 1:]


def steads(event, crew, many):
    """The same event with another worker, another task, or another word of the same form."""
    for at in range(1, len(event)):
        for number in list(range(-1, max(crew, many) + 1)) + [-crew, 10 ** 20]:
            yield event[:at] + (number,) + event[at + 1:]
    if event[0] in ("own", "put", "done"):
        for word in ("own", "put", "done"):
            yield (word,) + event[1:]


class EventsCase(unittest.TestCase):
    def right(self, plan, events, answer=True):
        before = copy.deepcopy((plan, events))
        for _ in range(2):
            self.assertIs(are_right(plan, events), answer, events)
            self.assertEqual((plan, events), before)

    def wrong(self, plan, events):
        self.right(plan, events, False)

    def right_but_for_the_last(self, plan, events):
        self.right(plan, events[:-1])
        self.wrong(plan, events)


class InterfaceTest(unittest.TestCase):
    def test_names_and_arguments(self):
        for function, arguments in (
            (module.are_right, ["plan", "events"]),
            (module.done_by, ["events"]),
            (module.undone, ["plan", "events"]),
        ):
            self.assertEqual(list(inspect.signature(function).parameters), arguments)
            self.assertEqual(function.__module__, "stealyard.events")


class RightTest(EventsCase):
    def test_told_by_hand_whole_and_broken_off(self):
        for at in range(len(WHOLE) + 1):
            self.right(PLAN, WHOLE[:at])

    def test_none_at_all(self):
        for plan in readings.PLANS:
            self.right(plan, [])

    def test_of_weavings_whole_and_broken_off(self):
        for plan in readings.PLANS[:10] + list(readings.many_plans(20, 8, 4)):
            for weaving in readings.weavings_of(plan, 3, 20 * len(plan[1])):
                yard, first = woven(plan, started(plan), weaving)
                self.right(plan, first)
                _, second = finished(plan, yard)
                self.right(plan, first + second)
                for at in range(0, len(first + second), 3):
                    self.right(plan, (first + second)[:at])

    def test_not_what_a_weaving_may_bring_but_right_by_plain_rows(self):
        # A worker may come to rest without a look at the others, and take of any of them.
        self.right(ROWS, [("rests", 2), ("taken", 0, 1, 3), ("done", 0, 3), ("taken", 1, 0, 0)])
        self.right(([[]], [[], [0], []]), [("rests", 0), ("rests", 2), ("own", 1, 0)])

    def test_all_that_may_come_next_and_nothing_else(self):
        """Every event of numbers in and beside the plan, behind everything that is right."""
        for plan in (
            ([], [[]]),
            ([[]], [[0]]),
            ([[1], []], [[0], []]),
            ([[], []], [[1, 0], []]),
            ([[1, 2], [], []], [[0]]),
            ([[], []], [[0], [], [1]]),
        ):
            crew, many = len(plan[1]), len(plan[0])
            all_events = every_event(
                list(range(-1, crew + 1)) + [-crew - 1], list(range(-1, many + 1)) + [-many - 1, 10 ** 20]
            )
            seen = {readings.plain_start(plan)}
            todo = [(readings.plain_start(plan), [])]
            for plain, events in todo:
                for event in all_events:
                    behind = readings.plain_after(plan, plain, event)
                    self.assertIs(are_right(plan, events + [event]), behind is not None, events + [event])
                    if behind is not None and behind not in seen:
                        seen.add(behind)
                        todo.append((behind, events + [event]))


class WrongTest(EventsCase):
    def test_own(self):
        self.right(ROWS, [("own", 0, 2)])
        self.right(ROWS, [("own", 0, 2), ("done", 0, 2), ("own", 0, 1)])
        # Of the beginning, of the middle, of another one's row, of what stands nowhere.
        for task in (0, 1, 4, 3, 5, -1):
            self.wrong(ROWS, [("own", 0, task)])
        for task in range(5):
            self.wrong(ROWS, [("own", 2, task)])
        # It holds one already.
        self.right_but_for_the_last(ROWS, [("own", 0, 2), ("own", 0, 1)])
        # It isn't there any longer.
        self.right_but_for_the_last(ROWS, [("own", 0, 2), ("done", 0, 2), ("own", 0, 2)])
        self.right_but_for_the_last(([[]], [[0], []]), [("taken", 1, 0, 0), ("own", 0, 0)])

    def test_taken(self):
        self.right(ROWS, [("taken", 2, 0, 0), ("taken", 1, 0, 1)])
        # Of the end, of the middle, of another row than told.
        for task in (1, 2, 3, 4, 5, -1):
            self.wrong(ROWS, [("taken", 2, 0, task)])
        for task in range(5):
            self.wrong(ROWS, [("taken", 0, 2, task)])
        # Of one's own row, the first as well as the last.
        for task in (0, 2):
            self.wrong(ROWS, [("taken", 0, 0, task)])
        self.wrong(([[]], [[0]]), [("taken", 0, 0, 0)])
        # It holds one already.
        self.right_but_for_the_last(ROWS, [("taken", 2, 0, 0), ("taken", 2, 0, 1)])
        self.right_but_for_the_last(ROWS, [("own", 1, 4), ("taken", 1, 0, 0)])
        # It isn't there any longer.
        self.right_but_for_the_last(ROWS, [("taken", 2, 0, 0), ("taken", 1, 0, 0)])
        self.right_but_for_the_last(([[]], [[0], []]), [("own", 0, 0), ("taken", 1, 0, 0)])
        # It isn't put yet, but held or written.
        self.right_but_for_the_last(([[1], []], [[0], []]), [("own", 0, 0), ("taken", 1, 0, 1)])

    def test_put(self):
        plan = ([[3, 1, 2], [], [4], [], []], [[0], []])
        whole = [("own", 0, 0), ("put", 0, 3), ("put", 0, 1), ("put", 0, 2)]
        self.right(plan, whole)
        # Out of the brood's order, or none of the brood.
        for child in (0, 1, 2, 4, 5, -1):
            self.right_but_for_the_last(plan, [("own", 0, 0), ("put", 0, child)])
        for child in (0, 2, 3, 4):
            self.right_but_for_the_last(plan, [("own", 0, 0), ("put", 0, 3), ("put", 0, child)])
        # One more than the brood has.
        for child in range(5):
            self.right_but_for_the_last(plan, whole + [("put", 0, child)])
        # It holds none, or another one holds it.
        self.wrong(plan, [("put", 0, 3)])
        self.wrong(plan, [("put", 1, 3)])
        self.right_but_for_the_last(plan, [("own", 0, 0), ("put", 1, 3)])
        self.right_but_for_the_last(plan, whole + [("done", 0, 0), ("put", 0, 4)])
        # It goes to the end of its holder's row.
        self.right(plan, whole + [("taken", 1, 0, 3)])
        self.right_but_for_the_last(plan, whole + [("taken", 1, 0, 2)])
        self.right_but_for_the_last(plan, whole + [("own", 1, 2)])
        self.right_but_for_the_last(plan, whole + [("done", 0, 0), ("own", 0, 3)])

    def test_put_behind_those_that_stand_there(self):
        plan = ([[2], [], []], [[1, 0]])
        events = [("own", 0, 0), ("put", 0, 2), ("done", 0, 0)]
        self.right(plan, events + [("own", 0, 2), ("done", 0, 2), ("own", 0, 1)])
        self.right_but_for_the_last(plan, events + [("own", 0, 1)])

    def test_done(self):
        plan = ([[1, 2], [], [], []], [[0], [3]])
        events = [("own", 0, 0), ("put", 0, 1), ("put", 0, 2)]
        self.right(plan, events + [("done", 0, 0)])
        # While tasks of the brood aren't put.
        self.right_but_for_the_last(plan, events[:1] + [("done", 0, 0)])
        self.right_but_for_the_last(plan, events[:2] + [("done", 0, 0)])
        # Another task than it holds, or another worker.
        for task in (1, 2, 3, 4, -1):
            self.right_but_for_the_last(plan, events + [("done", 0, task)])
        self.right_but_for_the_last(plan, events + [("done", 1, 0)])
        self.right_but_for_the_last(plan, events + [("own", 1, 3), ("done", 1, 0)])
        self.wrong(plan, [("done", 0, 0)])
        self.wrong(plan, [("done", 1, 3)])
        # Twice.
        self.right_but_for_the_last(plan, events + [("done", 0, 0), ("done", 0, 0)])

    def test_rests(self):
        plan = ([[1], []], [[0], []])
        self.right(plan, [("rests", 1)])
        # Its row isn't empty.
        self.wrong(plan, [("rests", 0)])
        self.right_but_for_the_last(plan, [("own", 0, 0), ("put", 0, 1), ("done", 0, 0), ("rests", 0)])
        # It holds a task.
        self.right_but_for_the_last(plan, [("own", 0, 0), ("rests", 0)])
        self.right_but_for_the_last(plan, [("taken", 1, 0, 0), ("rests", 1)])

    def test_no_event_of_a_worker_behind_its_rests(self):
        plan = ([[1], []], [[0], [], []])
        self.right_but_for_the_last(plan, [("rests", 1), ("taken", 1, 0, 0)])
        self.right_but_for_the_last(plan, [("rests", 1), ("rests", 1)])
        self.right_but_for_the_last(plan, [("rests", 1), ("own", 1, 0)])
        self.right_but_for_the_last(plan, [("rests", 1), ("put", 1, 0)])
        self.right_but_for_the_last(plan, [("rests", 1), ("done", 1, 0)])
        # Events of the others do come.
        self.right(plan, [("rests", 1), ("taken", 2, 0, 0), ("rests", 0), ("put", 2, 1), ("done", 2, 0)])
        self.right_but_for_the_last(plan, [("rests", 1), ("taken", 2, 1, 0)])

    def test_another_word(self):
        for at, event in enumerate(WHOLE):
            for word in ("own", "put", "done"):
                if len(event) == 3 and word != event[0]:
                    self.wrong(PLAN, WHOLE[:at] + [(word,) + event[1:]] + WHOLE[at + 1:])
            self.wrong(PLAN, WHOLE[:at] + [("holds",) + event[1:]] + WHOLE[at + 1:])

    def test_numbers_of_workers_or_tasks_that_there_are_not(self):
        for event in every_event((-3, -2, -1, 2, 3, 12, 10 ** 20), range(-1, 6)):
            for at in (0, 1, 6, len(WHOLE)):
                self.wrong(PLAN, WHOLE[:at] + [event])
                self.wrong(PLAN, WHOLE[:at] + [event] + WHOLE[at:])
        for event in every_event((0, 1), (-6, -5, -4, -1, 5, 6, 200, 10 ** 20)):
            if event[0] != "rests":
                for at in (0, 1, 6, len(WHOLE)):
                    self.wrong(PLAN, WHOLE[:at] + [event])
                    self.wrong(PLAN, WHOLE[:at] + [event] + WHOLE[at:])
        for other in (-3, -2, -1, 2, 3, 10 ** 20):
            self.right(PLAN, WHOLE[:2] + [("taken", 1, 0, 1)])
            self.wrong(PLAN, WHOLE[:2] + [("taken", 1, other, 1)])
            self.wrong(PLAN, [("taken", 1, other, 0)])

    def test_a_task_that_does_not_come(self):
        for worker in (0, 1):
            events = [(word, worker, 4) for word in ("own", "put", "done")]
            for event in events + [("taken", worker, 1 - worker, 4)]:
                for at in range(len(WHOLE) + 1):
                    self.wrong(PLAN, WHOLE[:at] + [event])

    def test_each_change_of_events_told_by_hand(self):
        for at in range(len(WHOLE) - 1):
            if WHOLE[at] != ("rests", 1):
                self.wrong(PLAN, WHOLE[:at] + WHOLE[at + 1:])
            self.wrong(PLAN, WHOLE[:at] + [WHOLE[at]] + WHOLE[at:])
        # These two don't hang on each other, the two others do.
        self.right(PLAN, WHOLE[:3] + [WHOLE[4], WHOLE[3]] + WHOLE[5:])
        self.wrong(PLAN, [WHOLE[1], WHOLE[0]] + WHOLE[2:])
        self.wrong(PLAN, WHOLE[:1] + [WHOLE[2], WHOLE[1]] + WHOLE[3:])
        self.wrong(PLAN, WHOLE[:5] + [WHOLE[6], WHOLE[5]] + WHOLE[7:])

    def test_changes_of_what_weavings_bring_against_the_second_reading(self):
        told = {True: 0, False: 0}
        for plan in readings.PLANS[:9]:
            for weaving in readings.weavings_of(plan, 2, 15 * len(plan[1])):
                yard, first = woven(plan, started(plan), weaving)
                whole = first + finished(plan, yard)[1]
                for events in changed(whole, plan):
                    answer = readings.second_are_right(plan, events)
                    self.assertIs(are_right(plan, events), answer, events)
                    told[answer] += 1
        self.assertGreater(told[True], 100)
        self.assertGreater(told[False], 1000)


class ToldOfTasksTest(unittest.TestCase):
    def tells(self, plan, events, done, rest):
        before = copy.deepcopy((plan, events))
        for _ in range(2):
            by, left = done_by(events), undone(plan, events)
            self.assertEqual(by, done)
            self.assertEqual(left, rest)
            self.assertIs(type(by), dict)
            self.assertIs(type(left), list)
            for number in list(by) + list(by.values()) + left:
                self.assertIs(type(number), int)
            self.assertEqual((plan, events), before)
            # What is told is the asker's own, so this may not show the second time.
            by[99] = 99
            by.pop(0, None)
            left.append(99)

    def test_told_by_hand_at_each_event(self):
        done = {}
        for at in range(len(WHOLE) + 1):
            if at and WHOLE[at - 1][0] == "done":
                done[WHOLE[at - 1][2]] = WHOLE[at - 1][1]
            self.tells(PLAN, WHOLE[:at], done, [task for task in (0, 1, 2, 3) if task not in done])
        self.assertEqual(done, {1: 1, 0: 0, 2: 0, 3: 0})

    def test_of_no_events(self):
        for plan in readings.PLANS:
            self.tells(plan, [], {}, coming(plan))

    def test_taken_or_put_is_not_done(self):
        plan = ([[1], [], []], [[0], [2]])
        self.tells(plan, [("taken", 1, 0, 0), ("put", 1, 1), ("taken", 0, 1, 2)], {}, [0, 1, 2])
        self.tells(plan, [("taken", 1, 0, 0), ("put", 1, 1), ("done", 1, 0)], {0: 1}, [1, 2])

    def test_by_the_one_that_did_it_and_not_in_whose_row_it_stood(self):
        plan = ([[], [], []], [[0, 1, 2], [], []])
        events = [("taken", 2, 0, 0), ("taken", 1, 0, 1), ("own", 0, 2)]
        events += [("done", 0, 2), ("done", 2, 0), ("done", 1, 1)]
        self.tells(plan, events, {0: 2, 1: 1, 2: 0}, [])

    def test_undone_rises_and_leaves_out_what_does_not_come(self):
        plan = ([[], [4], [5], [], [], []], [[3, 1], [0]])
        self.tells(plan, [], {}, [0, 1, 3, 4])
        self.tells(plan, [("own", 0, 1), ("put", 0, 4), ("done", 0, 1)], {1: 0}, [0, 3, 4])
        self.tells(plan, [("own", 1, 0), ("done", 1, 0)], {0: 1}, [1, 3, 4])

    def test_behind_whole_and_broken_weavings(self):
        for plan in readings.PLANS + list(readings.many_plans(30, 10, 4)):
            for weaving in readings.weavings_of(plan, 3, 12 * len(plan[1])):
                yard, first = woven(plan, started(plan), weaving)
                whole = first + finished(plan, yard)[1]
                for events in (first, whole, whole[:len(whole) // 2]):
                    done = {}
                    for event in events:
                        if event[0] == "done":
                            done[event[2]] = event[1]
                    rest = [task for task in readings.second_coming(plan) if task not in done]
                    self.tells(plan, events, done, rest)
                self.assertEqual(undone(plan, whole), [])
                self.assertEqual(sorted(done_by(whole)), coming(plan))

    def test_a_change_of_the_events_changes_no_answer(self):
        events = list(WHOLE)
        done, rest = done_by(events), undone(PLAN, events[:4])
        events.clear()
        self.assertEqual(done, {1: 1, 0: 0, 2: 0, 3: 0})
        self.assertEqual(rest, [0, 1, 2, 3])


if __name__ == "__main__":
    unittest.main()
