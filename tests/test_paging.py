"""Points 67, 68, 70 and 71: runs, silences, holding back, due times and workers."""

import random
import unittest

from tests.support import WatchTest
from watchfloor.paging import due, is_held, is_silenced, runs_of, worker_for


def of(**labels):
    return tuple(sorted(labels.items()))


A, B, C = of(job="a"), of(job="b"), of(job="a", zone="x")


class RunsTest(WatchTest):

    def test_runs_that_begin(self):
        self.gives([(A, 7), (B, 7)], runs_of, [], 7, [B, A])
        self.gives([((), 0)], runs_of, [], 0, [()])
        self.gives([], runs_of, [], 7, [])

    def test_runs_that_go_on_and_end(self):
        self.gives([(A, 3), (C, 7), (B, 5)], runs_of, [(A, 3), (B, 5)], 7, [B, C, A])
        self.gives([(B, 5)], runs_of, [(A, 3), (B, 5)], 7, [B])
        self.gives([], runs_of, [(A, 3), (B, 5)], 7, [])

    def test_runs_that_begin_anew(self):
        runs = runs_of(runs_of([(A, 3)], 7, []), 8, [A])
        self.assertEqual(runs, [(A, 8)])

    def test_ascending_by_labels(self):
        alerts = [(), A, C, B, of(zone="a")]
        shuffled = list(alerts)
        random.Random(67).shuffle(shuffled)
        self.gives([(alert, 4) for alert in alerts], runs_of, [], 4, shuffled)

    def test_results_are_new(self):
        old = [(A, 3)]
        found = runs_of(old, 7, [A])
        found.clear()
        self.assertEqual(old, [(A, 3)])


class SilenceTest(WatchTest):

    def test_first_and_last_time(self):
        silences = [((("job", ("a",), True),), 3, 6)]
        for time, silenced in ((2, False), (3, True), (5, True), (6, False)):
            self.gives(silenced, is_silenced, silences, A, time)
            self.gives(silenced, is_silenced, silences, C, time)
            self.gives(False, is_silenced, silences, B, time)

    def test_without_matchers(self):
        for alert in ((), A, B, C):
            self.gives(True, is_silenced, [((), 3, 6)], alert, 5)
            self.gives(False, is_silenced, [((), 3, 6)], alert, 6)

    def test_all_matchers_of_one_silence(self):
        job, zone = ("job", ("a",), True), ("zone", ("",), False)
        self.gives(True, is_silenced, [((job, zone), 0, 9)], C, 0)
        self.gives(False, is_silenced, [((job, zone), 0, 9)], A, 0)
        self.gives(False, is_silenced, [((job, zone), 0, 9)], of(zone="x"), 0)
        self.gives(True, is_silenced, [((zone,), 0, 9), ((job,), 0, 9)], A, 0)

    def test_several_silences(self):
        silences = [((("job", ("a",), True),), 3, 6), ((("job", ("b",), True),), 5, 8), ((("job", ("a",), True),), 7, 8)]
        self.assertEqual([is_silenced(silences, A, time) for time in range(9)],
                         [False, False, False, True, True, True, False, True, False])
        self.gives(False, is_silenced, [], A, 3)


class HeldTest(WatchTest):

    HOLDBACKS = [((("job", ("a",), True),), (("job", ("b", "a"), True),), ())]

    def test_runs_about_which_somebody_was_reached_only(self):
        self.gives(True, is_held, self.HOLDBACKS, [(A, 3), (B, 4)], [(A, 3)], B)
        self.gives(False, is_held, self.HOLDBACKS, [(A, 3), (B, 4)], [], B)
        self.gives(False, is_held, self.HOLDBACKS, [(A, 3), (B, 4)], [(B, 4)], B)

    def test_the_present_run_of_an_alert_that_fires(self):
        self.gives(False, is_held, self.HOLDBACKS, [(A, 5), (B, 4)], [(A, 3)], B)
        self.gives(False, is_held, self.HOLDBACKS, [(B, 4)], [(A, 3)], B)

    def test_never_by_itself(self):
        self.gives(False, is_held, self.HOLDBACKS, [(A, 3)], [(A, 3)], A)
        self.gives(True, is_held, self.HOLDBACKS, [(A, 3), (C, 3)], [(C, 3)], A)

    def test_holdbacks(self):
        self.gives(False, is_held, [], [(A, 3), (B, 4)], [(A, 3)], B)
        equal = [(self.HOLDBACKS[0][:2] + (("zone",),))]
        self.gives(False, is_held, equal, [(B, 4), (C, 3)], [(C, 3)], B)
        self.gives(True, is_held, equal, [(A, 3), (B, 4)], [(A, 3)], B)
        self.gives(True, is_held, equal + self.HOLDBACKS, [(B, 4), (C, 3)], [(C, 3)], B)
        self.gives(False, is_held, self.HOLDBACKS, [(A, 3), (B, 4)], [(B, 4), (A, 3)], ())


class DueTest(WatchTest):

    SETTINGS = (("job",), 4, 10, 100, (), "page")

    def test_without_an_entry(self):
        self.gives(9, due, self.SETTINGS, None, [(A, 5)])
        self.gives(7, due, self.SETTINGS, None, [(A, 5), (B, 3), (C, 8)])
        self.gives(3, due, ((), 0, 10, 100, (), "page"), None, [(B, 3)])

    def test_with_an_entry_that_lacks_a_run(self):
        self.gives(30, due, self.SETTINGS, (20, [(A, 5)]), [(A, 5), (B, 21)])
        self.gives(30, due, self.SETTINGS, (20, [(A, 5)]), [(A, 6)])
        self.gives(30, due, self.SETTINGS, (20, []), [(A, 5)])

    def test_with_an_entry_that_has_all(self):
        self.gives(120, due, self.SETTINGS, (20, [(A, 5), (B, 6)]), [(A, 5), (B, 6)])
        self.gives(120, due, self.SETTINGS, (20, [(A, 5), (B, 6)]), [(B, 6)])
        self.gives(120, due, self.SETTINGS, (20, ((A, 5),)), [(A, 5)])


class WorkerTest(WatchTest):

    def test_workers_by_their_numbers(self):
        for now, worker in ((9, None), (10, 0), (13, 0), (99, 0)):
            self.gives(worker, worker_for, 3, [0, 1, 2], 10, now)

    def test_down_ones_and_pauses(self):
        for now, worker in ((12, None), (13, 1), (16, 1)):
            self.gives(worker, worker_for, 3, [1, 2], 10, now)
        for now, worker in ((15, None), (16, 2)):
            self.gives(worker, worker_for, 3, [2], 10, now)
        self.gives(1, worker_for, 0, [1, 4], 10, 10)
        self.gives(None, worker_for, 0, [1, 4], 10, 9)
        self.gives(None, worker_for, 3, [], 10, 99)


if __name__ == "__main__":
    unittest.main()
