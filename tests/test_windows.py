"""Point 21: what selectors read, and the values over a range."""

import itertools
import unittest

from tests.support import WatchTest
from watchfloor.samples import view_of
from watchfloor.windows import is_read, over, windows


def up(**labels):
    return tuple(sorted([("metric", "up")] + list(labels.items())))


WEB = (("job", ("web",), True),)


class ReadTest(WatchTest):

    def test_both_ends_of_the_width(self):
        for width, time in itertools.product((1, 2, 5, 1000), (0, 3, 10, 1500)):
            for taken in (time - width - 1, time - width, time - width + 1, time - 1, time, time + 1):
                self.gives(time - width < taken <= time, is_read, "up", (), width, time, (up(), taken, 7))

    def test_metric(self):
        self.gives(True, is_read, "up", (), 5, 10, (up(job="web"), 10, 7))
        self.gives(False, is_read, "down", (), 5, 10, (up(job="web"), 10, 7))
        self.gives(False, is_read, "up", (), 5, 10, ((("job", "up"),), 10, 7))
        self.gives(False, is_read, "up", (), 5, 10, ((), 10, 7))

    def test_matchers(self):
        other = ("zone", ("",), False)
        self.gives(True, is_read, "up", WEB, 5, 10, (up(job="web"), 10, 7))
        self.gives(False, is_read, "up", WEB, 5, 10, (up(job="db"), 10, 7))
        self.gives(False, is_read, "up", WEB + (other,), 5, 10, (up(job="web"), 10, 7))
        self.gives(False, is_read, "up", (other,) + WEB, 5, 10, (up(job="web"), 10, 7))
        self.gives(True, is_read, "up", (other,) + WEB, 5, 10, (up(job="web", zone="x"), 10, 7))

    def test_value_does_not_matter(self):
        for value in (0, -5, 10 ** 20):
            self.gives(True, is_read, "up", (), 5, 10, (up(), 10, value))


class WindowsTest(WatchTest):

    VIEW = view_of(
        [(up(job="web"), time, 10 + time) for time in range(8)] + [(up(job="db"), time, -time) for time in (0, 3, 4, 9)]
        + [(up(), 5, 1), ((("metric", "down"),), 5, 2), ((("job", "web"),), 5, 3), (up(job="web", zone="x"), 2, 6)]
    )

    def test_width(self):
        self.gives([((("job", "web"),), [16])], windows, self.VIEW, "up", WEB + (("zone", ("",), True),), 1, 6)
        self.gives([((("job", "web"),), [15, 16])], windows, self.VIEW, "up", WEB, 2, 6)
        self.gives([((("job", "web"),), [10, 11]),], windows, self.VIEW, "up", WEB, 1000, 1)
        self.gives([((("job", "web"),), [10])], windows, self.VIEW, "up", WEB, 1, 0)
        self.gives([((("job", "web"),), [17])], windows, self.VIEW, "up", WEB, 3, 9)
        self.gives([], windows, self.VIEW, "up", WEB, 3, 10)

    def test_several_series(self):
        self.gives([((), [1]), ((("job", "db"),), [-3, -4]), ((("job", "web"),), [12, 13, 14, 15]),
                    ((("job", "web"), ("zone", "x")), [6])], windows, self.VIEW, "up", (), 4, 5)
        self.gives([((), [1]), ((("job", "web"),), [15, 16, 17])], windows, self.VIEW, "up", (), 3, 7)
        self.gives([((), [2])], windows, self.VIEW, "down", (), 3, 7)
        self.gives([], windows, self.VIEW, "job", (), 3, 7)
        self.gives([], windows, [], "up", (), 3, 7)

    def test_matchers(self):
        self.gives([((("job", "db"),), [0, -3, -4, -9])], windows, self.VIEW, "up", (("job", ("db",), True),), 10, 9)
        self.gives([((("job", "web"), ("zone", "x")), [6])], windows, self.VIEW, "up", (("zone", ("",), False),), 10, 9)
        self.gives([((), [1])], windows, self.VIEW, "up", (("job", ("",), True),), 10, 9)

    def test_ascending_without_the_metric(self):
        """The metric, which is taken away, would have put these in another order."""
        labels = [up(a="1"), up(), up(z="1"), up(a="1", z="2"), up(b="0")]
        view = view_of([(one, 3, 4) for one in labels])
        found = windows(view, "up", (), 5, 3)
        self.assertEqual([row[0] for row in found],
                         [(), (("a", "1"),), (("a", "1"), ("z", "2")), (("b", "0"),), (("z", "1"),)])
        self.assertNotEqual([row[0] for row in view][0], up())

    def test_results_are_new(self):
        view = list(self.VIEW)
        found = windows(view, "up", (), 1000, 20)
        for _, values in found:
            values.clear()
        found.clear()
        self.assertEqual(view, self.VIEW)
        self.assertEqual(len(windows(view, "up", (), 1000, 20)), 4)


class OverTest(WatchTest):

    def values(self, values, **expected):
        self.assertEqual(len(expected), 6)
        for word in expected:
            self.gives(expected[word], over, word, values)

    def test_several_values(self):
        self.values([3, 1, 4, 1, 5], sum_over=14, min_over=1, max_over=5, count_over=5, last_over=5, increase=1 + 3 + 1 + 4)
        self.values([5, 4, 3], sum_over=12, min_over=3, max_over=5, count_over=3, last_over=3, increase=7)
        self.values([-5, -3, -4], sum_over=-12, min_over=-5, max_over=-3, count_over=3, last_over=-4, increase=-2)
        self.values([7, 7], sum_over=14, min_over=7, max_over=7, count_over=2, last_over=7, increase=0)
        self.values([10 ** 20, 10 ** 20 + 1], sum_over=2 * 10 ** 20 + 1, min_over=10 ** 20, max_over=10 ** 20 + 1,
                    count_over=2, last_over=10 ** 20 + 1, increase=1)

    def test_one_value(self):
        for value in (0, 7, -7):
            self.values([value], sum_over=value, min_over=value, max_over=value, count_over=1, last_over=value, increase=0)

    def test_counter_that_begins_anew(self):
        self.gives(9, over, "increase", [1, 5, 2, 5])
        self.gives(0, over, "increase", [5, 0])
        self.gives(3, over, "increase", [5, 0, 3])
        self.gives(1, over, "increase", [5, 1])
        self.gives(4, over, "increase", [5, 4])
        self.gives(6, over, "increase", [3, 2, 1, 4])


if __name__ == "__main__":
    unittest.main()
