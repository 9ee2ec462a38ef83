"""Points 39, 40 and 42: the times of an alert, and the labels that rules make."""

import itertools
import random
import unittest

from tests.support import WatchTest
from watchfloor.alerting import alert_labels, record_labels, step, times_of


class StepTest(WatchTest):

    def test_begins(self):
        self.gives((7, None, 7), step, 3, 2, 7, True, None)
        self.gives((7, None, 7), step, 1, 0, 7, True, None)
        self.gives((7, 7, 7), step, 0, 0, 7, True, None)
        self.gives((0, 0, 0), step, 0, 5, 0, True, None)

    def test_goes_on_and_fires_when_the_hold_is_reached(self):
        self.gives((7, None, 9), step, 3, 0, 9, True, (7, None, 8))
        self.gives((7, 10, 10), step, 3, 0, 10, True, (7, None, 8))
        self.gives((7, 11, 11), step, 3, 0, 11, True, (7, None, 8))
        self.gives((7, 8, 8), step, 0, 0, 8, True, (7, None, 7))

    def test_goes_on_firing(self):
        self.gives((7, 10, 15), step, 3, 0, 15, True, (7, 10, 12))
        self.gives((7, 7, 8), step, 0, 4, 8, True, (7, 7, 7))

    def test_keeps_firing_until_the_keep_is_reached(self):
        self.gives((7, 10, 12), step, 3, 4, 13, False, (7, 10, 12))
        self.gives((7, 10, 12), step, 3, 4, 15, False, (7, 10, 12))
        self.gives(None, step, 3, 4, 16, False, (7, 10, 12))
        self.gives(None, step, 3, 4, 17, False, (7, 10, 12))

    def test_keep_of_nought(self):
        self.gives(None, step, 3, 0, 13, False, (7, 10, 12))
        self.gives((7, 10, 12), step, 3, 2, 13, False, (7, 10, 12))
        self.gives(None, step, 3, 1, 13, False, (7, 10, 12))

    def test_what_does_not_fire_is_over_at_once(self):
        self.gives(None, step, 5, 1000, 8, False, (7, None, 7))
        self.gives(None, step, 0, 1000, 8, False, None)
        self.gives(None, step, 5, 0, 8, False, None)

    def test_fired_at_nought(self):
        self.gives((0, 0, 0), step, 0, 5, 4, False, (0, 0, 0))
        self.gives(None, step, 0, 5, 5, False, (0, 0, 0))
        self.gives((0, 0, 3), step, 0, 5, 3, True, (0, 0, 0))


class TimesTest(WatchTest):

    def test_examples(self):
        self.gives(None, times_of, 3, 2, [])
        self.gives((4, None, 4), times_of, 3, 2, [(4, True)])
        self.gives((4, 7, 7), times_of, 3, 2, [(4, True), (5, True), (7, True)])
        self.gives((7, None, 8), times_of, 3, 2, [(4, True), (5, False), (7, True), (8, True)])
        self.gives((4, 7, 7), times_of, 3, 2, [(4, True), (7, True), (8, False)])
        self.gives(None, times_of, 3, 2, [(4, True), (7, True), (8, False), (9, False)])
        self.gives((4, 7, 9), times_of, 3, 2, [(4, True), (7, True), (8, False), (9, True), (10, False)])
        self.gives((12, None, 12), times_of, 3, 2, [(4, True), (7, True), (9, False), (12, True)])
        self.gives((2, 2, 2), times_of, 0, 0, [(1, False), (2, True)])

    def test_closed_form(self):
        """Point 42, for each row of six evaluations with some distances between them."""
        chance = random.Random(42)
        fires = []
        for pattern in itertools.product((True, False), repeat=6):
            for hold, keep in itertools.product((0, 1, 2, 3, 5), (0, 1, 2, 3, 5)):
                times = [chance.randint(0, 3)]
                for _ in range(5):
                    times.append(times[-1] + chance.choice((1, 1, 2, 3)))
                row = list(zip(times, pattern))
                for many in range(1, 7):
                    found = times_of(hold, keep, row[:many])
                    firing = found is not None and found[1] is not None
                    self.assertEqual(firing, self.fires(hold, keep, row[:many]), (hold, keep, row[:many]))
                    fires.append(firing)
        self.assertGreater(fires.count(True), 1000)
        self.assertGreater(fires.count(False), 1000)

    def fires(self, hold, keep, row):
        return any(
            row[first][0] + hold <= row[last][0] and all(holds for _, holds in row[first:last + 1])
            and self.kept(keep, row, last)
            for last in range(len(row)) for first in range(last + 1)
        )

    def kept(self, keep, row, last):
        return all(
            holds or any(held and time - before < keep for before, held in row[last:place])
            for place, (time, holds) in enumerate(row) if place > last
        )


class LabelsTest(WatchTest):

    def test_alerts(self):
        self.gives((("alert", "down"), ("job", "a")), alert_labels, "down", (), (("job", "a"),))
        self.gives((("alert", "down"),), alert_labels, "down", (), ())
        self.gives((("alert", "down"), ("job", "a"), ("team", "x")), alert_labels, "down", (("team", "x"),), (("job", "a"),))

    def test_a_label_of_the_rule_stands_in_the_place_of_one_of_the_entry(self):
        entry = (("job", "a"), ("zone", "x"))
        self.gives((("alert", "down"), ("job", "b"), ("zone", "x")), alert_labels, "down", (("job", "b"),), entry)
        self.gives((("job", "b"), ("metric", "load"), ("zone", "y")), record_labels, "load",
                   (("job", "b"), ("zone", "y")), entry)

    def test_names_of_rules(self):
        entry = (("alert", "old"), ("job", "a"), ("metric", "up"))
        self.gives((("alert", "down"), ("job", "a")), alert_labels, "down", (), entry)
        self.gives((("alert", "old"), ("job", "a"), ("metric", "load")), record_labels, "load", (), entry)
        self.gives((("metric", "load"),), record_labels, "load", (), ())

    def test_samples(self):
        self.gives((("job", "a"), ("metric", "load"), ("team", "x")), record_labels, "load", (("team", "x"),), (("job", "a"),))
        self.gives((("a", "1"), ("metric", "load"), ("z", "1")), record_labels, "load", (("a", "1"), ("z", "1")), ())

    def test_more_than_six_labels(self):
        entry = tuple(("n%d" % k, "v") for k in range(6))
        labels = tuple(("o%d" % k, "v") for k in range(6))
        self.gives((("alert", "down"),) + entry + labels, alert_labels, "down", labels, entry)
        self.gives((("metric", "load"),) + entry + labels, record_labels, "load", labels, entry)


if __name__ == "__main__":
    unittest.main()
