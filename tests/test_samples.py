"""Point 5: samples, views and series."""

import itertools
import random
import unittest

from tests.support import WatchTest
from watchfloor.errors import ConflictingSamples
from watchfloor.samples import add_sample, is_plain, newest, sample_at, select, series_of, spread, view_of

UP = (("job", "web"), ("metric", "up"))
UP_DB = (("job", "db"), ("metric", "up"))
BARE = (("metric", "up"),)
VIEW = [((), 4, 0), (UP_DB, 1, 5), (UP_DB, 3, -6), (UP, 0, 1), (UP, 2, 2), (UP, 7, 1), (BARE, 2, 9)]


class PlainTest(WatchTest):

    def test_ordinary(self):
        self.gives(True, is_plain, (UP, 3, 4))
        self.gives(True, is_plain, ((), 0, 0))

    def test_number_of_labels(self):
        pairs = tuple([("n%d" % k, "v") for k in range(7)])
        self.gives(True, is_plain, (pairs[:6], 3, 4))
        self.gives(False, is_plain, (pairs, 3, 4))

    def test_time(self):
        self.gives(False, is_plain, (UP, -1, 4))
        self.gives(True, is_plain, (UP, 0, 4))
        self.gives(True, is_plain, (UP, 10000, 4))
        self.gives(False, is_plain, (UP, 10001, 4))

    def test_value(self):
        for sign in (1, -1):
            self.gives(True, is_plain, (UP, 3, sign * (10 ** 15 - 1)))
            self.gives(False, is_plain, (UP, 3, sign * 10 ** 15))
            self.gives(False, is_plain, (UP, 3, sign * 10 ** 40))

    def test_order_of_names(self):
        self.gives(True, is_plain, ((("a", "2"), ("b", "1")), 3, 4))
        self.gives(False, is_plain, ((("b", "1"), ("a", "2")), 3, 4))
        self.gives(False, is_plain, ((("a", "1"), ("a", "1")), 3, 4))
        self.gives(False, is_plain, ((("a", "1"), ("a", "2")), 3, 4))
        self.gives(False, is_plain, ((("a", "1"), ("c", "2"), ("b", "3")), 3, 4))

    def test_names_and_values(self):
        for name, value, plain in (
            ("a" * 20, "1" * 20, True), ("a" * 21, "1", False), ("", "1", False), ("1a", "1", False),
            ("_a", "1", False), ("a", "", False), ("a", "1" * 21, False), ("A", "1", False), ("a", "B", False),
            ("a", "_1", True), ("a b", "1", False), ("a", "-", False),
        ):
            self.gives(plain, is_plain, (((name, value),), 3, 4))
            self.gives(plain, is_plain, (tuple(sorted([(name, value), ("m", "1")])), 3, 4))


class ViewTest(WatchTest):

    def test_any_order(self):
        for seed in range(20):
            samples = list(VIEW)
            random.Random(seed).shuffle(samples)
            self.gives(VIEW, view_of, samples)
        self.gives([], view_of, [])

    def test_labels_before_times(self):
        self.gives([((("a", "1"),), 9, 1), ((("a", "2"),), 0, 1), ((("b", "1"),), 0, 1)], view_of,
                   [((("b", "1"),), 0, 1), ((("a", "2"),), 0, 1), ((("a", "1"),), 9, 1)])

    def test_beginning_of_labels_comes_first(self):
        longer = (("a", "1"), ("b", "1"))
        self.gives([((), 5, 1), (longer[:1], 5, 1), (longer, 5, 1)], view_of,
                   [(longer, 5, 1), (longer[:1], 5, 1), ((), 5, 1)])

    def test_doubled(self):
        self.gives(VIEW, view_of, VIEW + VIEW)
        self.gives(VIEW, view_of, VIEW[::-1] + VIEW)
        self.gives([(UP, 3, 4)], view_of, [(UP, 3, 4)] * 3)

    def test_result_is_new(self):
        samples = list(VIEW)
        found = view_of(samples)
        found.clear()
        self.assertEqual(samples, VIEW)

    def test_contradiction(self):
        self.refused(ConflictingSamples, {"place": 1}, view_of, [(UP, 3, 4), (UP, 3, 5)])
        self.refused(ConflictingSamples, {"place": 1}, view_of, [(UP, 3, 4), (UP, 3, 5), (UP, 3, 4)])
        self.refused(ConflictingSamples, {"place": 2}, view_of, [(UP, 3, 4), (UP, 3, 4), (UP, 3, 5)])
        self.refused(ConflictingSamples, {"place": 3}, view_of,
                     [(UP, 3, 4), (BARE, 3, 1), (UP, 2, 0), (UP, 3, 5), (BARE, 3, 2)])
        self.refused(ConflictingSamples, {"place": 3}, view_of,
                     [(UP, 9, 4), (BARE, 3, 1), (UP_DB, 1, 0), (BARE, 3, 2), (UP, 9, 5)])
        self.refused(ConflictingSamples, {"place": 7}, view_of, VIEW + [(UP, 0, 0)])

    def test_same_time_or_labels_alone_do_not_contradict(self):
        self.gives([(UP_DB, 3, 5), (UP, 2, 6), (UP, 3, 4)], view_of, [(UP, 3, 4), (UP_DB, 3, 5), (UP, 2, 6)])


class AddingTest(WatchTest):

    def test_every_place(self):
        for at in range(len(VIEW)):
            rest = VIEW[:at] + VIEW[at + 1:]
            self.gives(VIEW, add_sample, rest, VIEW[at])

    def test_one_that_is_there_stays(self):
        for labels, time, value in VIEW:
            self.gives(VIEW, add_sample, VIEW, (labels, time, value))
            self.gives(VIEW, add_sample, VIEW, (labels, time, value + 1))

    def test_to_an_empty_view(self):
        self.gives([(UP, 3, 4)], add_sample, [], (UP, 3, 4))

    def test_more_than_plain_samples(self):
        labels = tuple([("n%d" % k, "v") for k in range(9)])
        self.gives([(labels, 3, 10 ** 20)], add_sample, [], (labels, 3, 10 ** 20))

    def test_result_is_new(self):
        for sample in ((UP, 3, 4), VIEW[2]):
            view = list(VIEW)
            found = add_sample(view, sample)
            found.clear()
            self.assertEqual(view, VIEW)

    def test_sample_at(self):
        for labels, time, value in VIEW:
            self.gives(value, sample_at, VIEW, labels, time)
        there = [(labels, time) for labels, time, _ in VIEW]
        for labels, time in itertools.product(((), UP, UP_DB, BARE, (("z", "z"),)), range(9)):
            if (labels, time) not in there:
                self.gives(None, sample_at, VIEW, labels, time)
        self.gives(None, sample_at, [], UP, 0)
        self.gives(0, sample_at, VIEW, (), 4)

    def test_newest(self):
        self.gives(0, newest, [])
        self.gives(7, newest, VIEW)
        self.gives(2, newest, VIEW[-1:])
        self.gives(0, newest, [(UP, 0, 5)])
        self.gives(9, newest, [(UP_DB, 9, 1), (UP, 3, 50)])


class SelectTest(WatchTest):

    def test_times_at_both_ends(self):
        self.gives([sample for sample in VIEW if 1 <= sample[1] <= 3], select, VIEW, (), 1, 3)
        self.gives([(UP_DB, 3, -6)], select, VIEW, (), 3, 3)
        self.gives([(UP, 7, 1)], select, VIEW, (), 5, 100)
        self.gives([], select, VIEW, (), 5, 6)
        self.gives([], select, VIEW, (), 3, 2)
        self.gives(VIEW, select, VIEW, (), 0, 7)

    def test_matchers(self):
        web, some = ("job", ("web",), True), ("job", ("",), False)
        for kind in (list, tuple):
            self.gives(VIEW[3:6], select, VIEW, kind([web]), 0, 100)
            self.gives(VIEW[1:6], select, VIEW, kind([some]), 0, 100)
            self.gives(VIEW[1:3], select, VIEW, kind([some, ("job", ("web",), False)]), 0, 100)
            self.gives(VIEW[4:6], select, VIEW, kind([web, some]), 1, 7)
            self.gives([], select, VIEW, kind([web, ("job", ("db",), True)]), 0, 100)

    def test_result_is_new(self):
        view = list(VIEW)
        found = select(view, (), 0, 100)
        found.clear()
        self.assertEqual(view, VIEW)


class SeriesTest(WatchTest):

    def test_series_and_back(self):
        series = [((), [(4, 0)]), (UP_DB, [(1, 5), (3, -6)]), (UP, [(0, 1), (2, 2), (7, 1)]), (BARE, [(2, 9)])]
        self.gives(series, series_of, VIEW)
        self.gives(VIEW, spread, series)

    def test_empty(self):
        self.gives([], series_of, [])
        self.gives([], spread, [])

    def test_results_are_new(self):
        view = list(VIEW)
        series = series_of(view)
        series[0][1].append((5, 5))
        self.assertEqual(view, VIEW)
        self.assertEqual(len(series_of(view)[0][1]), 1)
        again = spread(series)
        again.clear()
        self.assertEqual(series[0], ((), [(4, 0), (5, 5)]))


if __name__ == "__main__":
    unittest.main()
