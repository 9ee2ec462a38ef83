"""Points 20 to 22: the values of expressions at times."""

import random
import unittest

from tests.support import WatchTest, small_expression, small_view
from watchfloor.errors import TooManyTimes
from watchfloor.expressions import kind_of
from watchfloor.parsing import parse
from watchfloor.samples import view_of
from watchfloor.values import value_at, values_between


def series(metric, values, **labels):
    """Return samples of one series; `values` is a dict by times."""
    found = tuple(sorted([("metric", metric)] + list(labels.items())))
    return [(found, time, values[time]) for time in values]


A, AX, B, NONE = (("job", "a"),), (("job", "a"), ("zone", "x")), (("job", "b"),), ()
VIEW = view_of(
    series("up", {2: 1, 4: 0, 6: 1}, job="a") + series("up", {3: 5, 9: 7}, job="b") + series("up", {4: 2})
    + series("load", {4: 10, 5: 20, 6: 5}, job="a", zone="x") + series("load", {5: 3}, job="b", zone="x")
    + series("load", {6: 4}, job="b", zone="y") + [((("job", "a"),), 4, 99), ((), 4, 98)]
)


class ValueTest(WatchTest):

    def value(self, result, text, lookback, time, view=None):
        self.gives(result, value_at, parse(text), lookback, VIEW if view is None else view, time)


class SelectorTest(ValueTest):

    def test_latest_at_both_ends_of_the_lookback(self):
        view = series("up", {7: 3})
        for lookback in (1, 2, 5, 1000):
            self.value([], "up", lookback, 6, view)
            self.value([(NONE, 3)], "up", lookback, 7, view)
            self.value([(NONE, 3)], "up", lookback, 7 + lookback - 1, view)
            self.value([], "up", lookback, 7 + lookback, view)

    def test_over_at_both_ends_of_the_span(self):
        view = series("up", {7: 3})
        for span in (1, 2, 5, 1000):
            for lookback in (1, 1000):
                text = "sum_over(up[%d])" % span
                self.value([], text, lookback, 6, view)
                self.value([(NONE, 3)], text, lookback, 7, view)
                self.value([(NONE, 3)], text, lookback, 7 + span - 1, view)
                self.value([], text, lookback, 7 + span, view)

    def test_latest_takes_the_last_one(self):
        self.value([(A, 1)], "up", 5, 2)
        self.value([(A, 1), (B, 5)], "up", 5, 3)
        self.value([(NONE, 2), (A, 0), (B, 5)], "up", 5, 5)
        self.value([(A, 1)], 'up{job="a"}', 5, 6)

    def test_series_come_and_go(self):
        expected = {1: [], 2: [(A, 1)], 3: [(A, 1), (B, 5)], 4: [(NONE, 2), (A, 0), (B, 5)],
                    5: [(NONE, 2), (A, 0)], 6: [(A, 1)], 7: [(A, 1)], 8: [], 9: [(B, 7)], 10: [(B, 7)], 11: []}
        for time in expected:
            self.value(expected[time], "up", 2, time)

    def test_functions_over_a_range(self):
        for word, value in (("sum_over", 2), ("min_over", 0), ("max_over", 1), ("count_over", 3), ("last_over", 1),
                            ("increase", 1)):
            self.value([(A, value)], word + '(up{job="a"}[5])', 1, 6)
        self.value([(AX, 5)], 'increase(load{job="a"}[2])', 1, 6)
        self.value([(A, 15)], 'sum by (job) (increase(load{job="a"}[3]))', 1, 6)

    def test_entries_lack_the_metric_and_ascend(self):
        rows = series("m", {1: 1}, a="1") + series("m", {1: 2}) + series("m", {1: 3}, z="1") + series("m", {1: 4}, b="0")
        self.value([((), 2), ((("a", "1"),), 1), ((("b", "0"),), 4), ((("z", "1"),), 3)], "m", 5, 3, view_of(rows))

    def test_matchers(self):
        self.value([((("job", "b"), ("zone", "y")), 4)], 'load{job="b", zone!="x"}', 3, 6)
        self.value([(NONE, 2)], 'up{job in ("", "c")}', 3, 5)
        self.value([], 'up{job="c"}', 3, 5)

    def test_empty_view(self):
        for text in ("up", "sum(up)", "count_over(up[9])", "up or up", "1 + up", "count(up) + 1"):
            self.value([], text, 5, 3, [])


class OperatorTest(ValueTest):

    def test_numbers(self):
        self.value(7, "7", 5, 3)
        self.value(-7, "-7", 5, 3)
        self.value(7, "1 + 2 * 3", 5, 3)
        self.value(-4, "1 - 2 - 3", 5, 3)
        self.value(2, "1 - (2 - 3)", 5, 3)

    def test_number_stays_on_its_side(self):
        self.value([(NONE, 8), (A, 10), (B, 5)], "10 - up", 5, 4)
        self.value([(NONE, -8), (A, -10), (B, -5)], "up - 10", 5, 4)
        self.value([(B, 5)], "2 < up", 5, 4)
        self.value([(A, 0)], "up < 2", 5, 4)

    def test_two_vectors(self):
        view = view_of(series("load", {5: 20}, job="a", zone="x") + series("load", {6: 3}, job="b", zone="x")
                       + series("up", {6: 1}, job="a") + series("up", {6: 2}, job="b") + series("up", {6: 3}, job="c"))
        self.value([(A, 25), (B, 13)], "sum by (job) (load) + up * 5", 3, 6, view)
        self.value([(A, 15), (B, -7)], "sum by (job) (load) - up * 5", 3, 6, view)
        self.value([(A, 5)], "sum by (job) (load) > up", 3, 6)
        self.value([], "up > sum by (job) (load)", 3, 6)

    def test_joining(self):
        self.value([(A, 1)], "up and sum by (job) (load)", 3, 6)
        self.value([(NONE, 2)], "up unless sum by (job) (load)", 3, 6)
        self.value([(NONE, 2), (A, 1), (B, 7)], "up or sum by (job) (load)", 3, 6)
        self.value([(NONE, 2), (A, 5), (B, 7)], "sum by (job) (load) or up", 3, 6)

    def test_aggregations(self):
        for word, values in (("sum", (5, 7)), ("min", (5, 3)), ("max", (5, 4)), ("count", (1, 2))):
            self.value([(A, values[0]), (B, values[1])], word + " by (job) (load)", 3, 6)
        self.value([(NONE, 12)], "sum(load)", 3, 6)
        self.value([(NONE, 2)], "count(sum by (job) (load))", 3, 6)
        self.value([((("zone", "x"),), 8), ((("zone", "y"),), 4)], "sum by (zone) (load)", 3, 6)
        self.value([(NONE, 3)], "count by (metric) (load)", 3, 6)

    def test_each_selector_has_its_own_width(self):
        self.value([(AX, 35)], 'sum_over(load{job="a"}[3])', 1, 6)
        self.value([(AX, 1035)], 'sum_over(load{job="a"}[3]) + 200 * load', 1, 6)
        self.value([(AX, 7)], "count_over(load[3]) + count_over(load[2]) * 2 and load", 1, 6,
                   [sample for sample in VIEW if sample[0][:1] == A])

    def test_results_are_new(self):
        for text in ("up", "sum_over(up[9])", "up or load", "up and up", "sum by (job) (up)", "up + 1", "up > 0"):
            view = list(VIEW)
            value_at(parse(text), 5, view, 6).append("x")
            self.assertEqual(view, VIEW)
            self.assertNotIn("x", value_at(parse(text), 5, view, 6))

    def test_vectors_ascend_and_have_plain_kinds(self):
        chance = random.Random(20)
        seen = 0
        for _ in range(400):
            expression = small_expression(chance, 4)
            value = value_at(expression, chance.randint(1, 6), small_view(chance, 40), chance.randint(0, 12))
            if kind_of(expression) == "number":
                self.assertIs(type(value), int)
                continue
            seen += len(value) > 1
            self.assertIs(type(value), list)
            labels = [entry[0] for entry in value]
            self.assertEqual(labels, sorted(set(labels)))
            for entry in value:
                self.assertIs(type(entry), tuple)
                self.assertNotIn("metric", [name for name, _ in entry[0]])
                self.assertIs(type(entry[1]), int)
        self.assertGreater(seen, 50)


class BetweenTest(WatchTest):

    def between(self, result, text, first, last, step):
        self.gives(result, values_between, parse(text), 2, VIEW, first, last, step)

    def test_several_times(self):
        self.between([(2, [(A, 1)]), (3, [(A, 1)]), (4, [(A, 0)])], 'up{job="a"}', 2, 4, 1)
        self.between([(2, [(A, 1)]), (4, [(A, 0)])], 'up{job="a"}', 2, 4, 2)

    def test_step_that_does_not_hit_the_last_time(self):
        self.between([(2, [(A, 1)]), (4, [(A, 0)])], 'up{job="a"}', 2, 5, 2)
        self.between([(2, [(A, 1)])], 'up{job="a"}', 2, 5, 4)
        self.between([(2, [(A, 1)])], 'up{job="a"}', 2, 5, 1000)
        self.between([(0, 7), (1000, 7), (2000, 7)], "7", 0, 2999, 1000)

    def test_one_time_and_none(self):
        self.between([(2, 7)], "7", 2, 2, 1)
        self.between([], "7", 2, 1, 1)
        self.between([], "7", 10000, 0, 1000)

    def test_number_of_times(self):
        for step in (1, 2, 7, 1000):
            many = [(3 + step * k, 7) for k in range(200)]
            self.between(many, "7", 3, 3 + 199 * step, step)
            self.between(many, "7", 3, 3 + 200 * step - 1, step)
            self.refused(TooManyTimes, {}, values_between, parse("7"), 2, VIEW, 3, 3 + 200 * step, step)
            self.refused(TooManyTimes, {}, values_between, parse("up"), 2, VIEW, 3, 3 + 200 * step, step)
        self.between([(0, 7), (50, 7)], "7", 0, 99, 50)
        self.refused(TooManyTimes, {}, values_between, parse("7"), 2, VIEW, 0, 10000, 1)

    def test_values_are_those_at_the_times(self):
        chance = random.Random(21)
        for _ in range(30):
            expression, view = small_expression(chance, 4), small_view(chance, 20)
            first, step = chance.randint(0, 5), chance.randint(1, 4)
            found = values_between(expression, 3, view, first, 12, step)
            self.assertEqual(found, [(time, value_at(expression, 3, view, time)) for time in range(first, 13, step)])


if __name__ == "__main__":
    unittest.main()
