"""Points 23 and 24: which samples an expression reads, and which bear on an entry."""

import random
import unittest

from tests.support import WatchTest, small_expression, small_vector, small_view
from watchfloor.parsing import parse
from watchfloor.reading import affected, reach, samples_for, samples_read
from watchfloor.samples import view_of
from watchfloor.values import value_at


def of(metric, time, value, **labels):
    return tuple(sorted([("metric", metric)] + list(labels.items()))), time, value


VIEW = view_of([
    of("up", 1, 1, job="a"), of("up", 2, 2, job="a"), of("up", 3, 3, job="a"), of("up", 3, 4, job="b", zone="x"),
    of("up", 4, 5, zone="x"), of("load", 2, 6, job="a"), of("load", 3, 7, job="a", zone="x"), of("load", 4, 8),
    of("load", 5, 9, job="b"), ((("job", "a"),), 3, 10),
])


class ReachTest(WatchTest):

    def test_reach(self):
        for text, width in (
            ("up", 5), ("1", 0), ("1 + 2 * 3", 0), ("sum_over(up[3])", 3), ("sum_over(up[3]) + up", 5),
            ("sum_over(up[8]) + up", 8), ("up + sum_over(up[8])", 8), ("1 - sum_over(up[8])", 8),
            ("sum by (job) (max_over(up[2]) or min_over(load[4])) > 3", 4), ("count(sum(up))", 5),
            ("min_over(up[1000])", 1000), ("max_over(up[1])", 1),
        ):
            self.gives(width, reach, parse(text), 5)
        self.gives(1, reach, parse("up"), 1)
        self.gives(1000, reach, parse("up"), 1000)
        self.gives(1000, reach, parse("up + sum_over(up[3])"), 1000)

    def test_affected(self):
        self.gives((7, 12), affected, parse("up"), 5, 7)
        self.gives((7, 15), affected, parse("up + sum_over(up[8])"), 5, 7)
        self.gives((0, 1), affected, parse("up"), 1, 0)
        self.gives((10000, 11000), affected, parse("sum_over(up[1000])"), 5, 10000)
        self.gives(None, affected, parse("1"), 5, 7)
        self.gives(None, affected, parse("1 + 2"), 5, 7)

    def test_times_at_which_a_sample_can_change_the_value(self):
        """The time before the first one, the first one, the last one, and the first one behind it."""
        for text, width in (("up", 5), ("sum_over(up[3])", 3), ("up or count_over(up[8])", 8), ("sum(up) + 1", 5)):
            expression = parse(text)
            first, behind = affected(expression, 5, 20)
            self.assertEqual((first, behind), (20, 20 + width))
            for time, changes in ((first - 1, False), (first, True), (behind - 1, True), (behind, False)):
                with_it = value_at(expression, 5, [of("up", 20, 7)], time)
                self.assertEqual(with_it != value_at(expression, 5, [], time), changes, (text, time))

    def test_a_sample_changes_nothing_at_other_times(self):
        chance = random.Random(23)
        for _ in range(300):
            expression, view = small_expression(chance, 4), small_view(chance, 20)
            if not view:
                continue
            sample = chance.choice(view)
            rest = [other for other in view if other != sample]
            times = affected(expression, 3, sample[1]) or (0, 0)
            for time in range(25):
                if not times[0] <= time < times[1]:
                    self.assertEqual(value_at(expression, 3, view, time), value_at(expression, 3, rest, time))


class ReadTest(WatchTest):

    def read(self, text, lookback, time, *expected):
        self.gives([sample for sample in VIEW if sample in expected], samples_read, parse(text), lookback, VIEW, time)
        self.assertTrue(all(sample in VIEW for sample in expected))

    def test_one_selector(self):
        self.read("up", 2, 3, of("up", 2, 2, job="a"), of("up", 3, 3, job="a"), of("up", 3, 4, job="b", zone="x"))
        self.read("sum_over(up[1])", 9, 3, of("up", 3, 3, job="a"), of("up", 3, 4, job="b", zone="x"))
        self.read('up{job="a"}', 2, 3, of("up", 2, 2, job="a"), of("up", 3, 3, job="a"))
        self.read("other", 9, 9)
        self.read("1", 9, 9)
        self.read("load", 1, 4, of("load", 4, 8))

    def test_several_selectors(self):
        self.read('up{job="a"} + sum_over(load[2])', 1, 4, of("load", 3, 7, job="a", zone="x"), of("load", 4, 8))
        self.read('up{job="a"} and sum(count_over(load[2])) > 1', 2, 4, of("up", 3, 3, job="a"),
                  of("load", 3, 7, job="a", zone="x"), of("load", 4, 8))
        self.read("up or up or up{zone=\"\"}", 1, 4, of("up", 4, 5, zone="x"))

    def test_all_of_a_series_within_the_width_is_read(self):
        self.read('up{job="a"}', 5, 3, of("up", 1, 1, job="a"), of("up", 2, 2, job="a"), of("up", 3, 3, job="a"))

    def test_value_over_the_samples_read_alone(self):
        chance = random.Random(24)
        fewer = 0
        for _ in range(500):
            expression, view = small_expression(chance, 5), small_view(chance, 30)
            lookback, time = chance.randint(1, 6), chance.randint(0, 14)
            read = samples_read(expression, lookback, view, time)
            fewer += 0 < len(read) < len(view)
            self.assertEqual(read, [sample for sample in view if sample in read])
            self.assertEqual(value_at(expression, lookback, read, time), value_at(expression, lookback, view, time))
        self.assertGreater(fewer, 100)

    def test_result_is_new(self):
        view = list(VIEW)
        samples_read(parse("up or load"), 100, view, 9).clear()
        samples_for(parse("sum(up or load)"), 100, view, 9, ()).clear()
        self.assertEqual(view, VIEW)


class BearingTest(WatchTest):

    def bears(self, text, time, labels, *expected):
        self.assertTrue(all(sample in VIEW for sample in expected))
        self.gives([sample for sample in VIEW if sample in expected], samples_for, parse(text), 9, VIEW, time, labels)

    UP_A = [of("up", time, time, job="a") for time in (1, 2, 3)]
    UP_BX, UP_X = of("up", 3, 4, job="b", zone="x"), of("up", 4, 5, zone="x")
    LOAD_A, LOAD_AX = of("load", 2, 6, job="a"), of("load", 3, 7, job="a", zone="x")
    LOAD, LOAD_B = of("load", 4, 8), of("load", 5, 9, job="b")
    A, B, X, BX = (("job", "a"),), (("job", "b"),), (("zone", "x"),), (("job", "b"), ("zone", "x"))

    def test_selectors_alone(self):
        self.bears("up", 4, self.A, *self.UP_A)
        self.bears("up", 4, self.BX, self.UP_BX)
        self.bears("up", 4, self.B)
        self.bears("up", 4, ())
        self.bears("sum_over(up[2])", 4, self.A, self.UP_A[2])
        self.bears("sum_over(load[3])", 4, (), self.LOAD)
        self.bears('up{job="a"}', 4, self.BX)

    def test_both_sides_of_an_operator(self):
        self.bears("up + load", 5, self.A, self.LOAD_A, *self.UP_A)
        self.bears("up unless load", 5, (), self.LOAD)
        self.bears("up > 3", 5, self.X, self.UP_X)
        self.bears("3 > up", 5, self.X, self.UP_X)

    def test_one_aggregation(self):
        self.bears("sum by (job) (up)", 5, self.A, *self.UP_A)
        self.bears("sum by (job) (up)", 5, self.B, self.UP_BX)
        self.bears("sum by (job) (up)", 5, (), self.UP_X)
        self.bears("sum by (zone) (up)", 5, self.X, self.UP_BX, self.UP_X)
        self.bears("sum by (zone, job) (up)", 5, self.BX, self.UP_BX)
        self.bears("sum(up)", 5, (), self.UP_BX, self.UP_X, *self.UP_A)
        self.bears("sum by (metric) (up)", 5, (), self.UP_BX, self.UP_X, *self.UP_A)

    def test_aggregations_one_within_another(self):
        self.bears("count by (job) (sum by (job, zone) (load))", 5, self.A, self.LOAD_A, self.LOAD_AX)
        self.bears("count by (job) (sum by (zone) (load))", 5, (), self.LOAD_A, self.LOAD_AX, self.LOAD, self.LOAD_B)
        self.bears("count by (job) (sum by (zone) (load))", 5, self.A)
        self.bears("count by (zone) (sum by (zone, job) (load or up))", 5, self.X, self.LOAD_AX, self.UP_BX, self.UP_X)
        self.bears("max(count by (zone) (sum by (zone, job) (up)))", 5, (), self.UP_BX, self.UP_X, *self.UP_A)

    def test_selectors_with_other_aggregations_around_them(self):
        self.bears("load + sum by (job) (up)", 5, self.A, self.LOAD_A, *self.UP_A)
        self.bears("sum by (job) (up) + max by (zone) (load)", 5, (), self.UP_X, self.LOAD_A, self.LOAD, self.LOAD_B)
        self.bears("sum by (zone) (up + sum by (job) (load))", 5, (), self.LOAD_A, self.LOAD_AX, self.LOAD, self.LOAD_B,
                   *self.UP_A)
        self.bears("up or sum by (zone) (up)", 5, self.X, self.UP_BX, self.UP_X)

    def test_labels_that_no_entry_has(self):
        for text in ("up", "sum by (job) (up)", "sum(up)", "up + load"):
            self.bears(text, 5, (("job", "c"),))
            self.bears(text, 5, (("other", "a"),))
        self.bears("sum(up)", 5, self.A)

    def test_entry_over_the_samples_that_bear_on_it_alone(self):
        chance = random.Random(25)
        fewer = 0
        for _ in range(400):
            expression, view = small_vector(chance, 5), small_view(chance, 30)
            lookback, time = chance.randint(1, 6), chance.randint(0, 14)
            value = value_at(expression, lookback, view, time)
            others = [(), self.A, self.B, self.X, self.BX, (("job", "a"), ("zone", "x")), (("job", "a"), ("zone", "y"))]
            for labels in [labels for labels, _ in value] + others:
                bearing = samples_for(expression, lookback, view, time, labels)
                read = samples_read(expression, lookback, view, time)
                self.assertEqual(bearing, [sample for sample in read if sample in bearing])
                fewer += 0 < len(bearing) < len(read)
                alone = dict(value_at(expression, lookback, bearing, time))
                self.assertEqual(alone.get(labels), dict(value).get(labels))
        self.assertGreater(fewer, 100)


if __name__ == "__main__":
    unittest.main()
