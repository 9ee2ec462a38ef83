"""Points 38 and 43: when groups are due, and the delays of rules."""

import itertools
import unittest

from tests.support import WatchTest
from watchfloor.alerting import times_of
from watchfloor.timing import due_times, greatest_delay, is_due, least_delay, next_due


class DueTest(WatchTest):

    def test_is_due(self):
        for every, offset, due in ((1, 0, [0, 1, 2, 3, 4, 5, 6, 7]), (3, 0, [0, 3, 6]), (3, 1, [1, 4, 7]), (3, 2, [2, 5]),
                                   (1000, 999, [])):
            for time in range(8):
                self.gives(time in due, is_due, every, offset, time)
        self.gives(True, is_due, 1000, 999, 999)
        self.gives(False, is_due, 1000, 999, 1000)
        self.gives(True, is_due, 1000, 0, 10000)

    def test_next_due(self):
        for every in (1, 2, 3, 7):
            for offset in (0, every // 2, every - 1):
                for time in range(20):
                    expected = min(later for later in range(time, time + every) if later % every == offset)
                    self.gives(expected, next_due, every, offset, time)
        self.gives(999, next_due, 1000, 999, 0)
        self.gives(999, next_due, 1000, 999, 999)
        self.gives(1999, next_due, 1000, 999, 1000)
        self.gives(10500, next_due, 1000, 500, 10000)

    def test_due_times_at_both_ends(self):
        self.gives([2, 5, 8], due_times, 3, 2, 2, 9)
        self.gives([2, 5], due_times, 3, 2, 2, 8)
        self.gives([5, 8], due_times, 3, 2, 3, 9)
        self.gives([2], due_times, 3, 2, 2, 3)
        self.gives([0, 3], due_times, 3, 0, 0, 4)
        self.gives([5, 6, 7], due_times, 1, 0, 5, 8)
        self.gives([999, 1999], due_times, 1000, 999, 0, 2000)
        self.gives([999], due_times, 1000, 999, 0, 1999)

    def test_empty_ranges(self):
        self.gives([], due_times, 3, 2, 2, 2)
        self.gives([], due_times, 3, 2, 5, 2)
        self.gives([], due_times, 3, 2, 3, 5)
        self.gives([], due_times, 3, 2, 0, 0)

    def test_due_times_are_those_that_are_due(self):
        for every in (1, 2, 5):
            for offset in range(every):
                for first, last in itertools.product(range(12), repeat=2):
                    expected = [time for time in range(first, last) if is_due(every, offset, time)]
                    self.gives(expected, due_times, every, offset, first, last)


def alert_after(every, hold, begin, missed):
    """Return how long after its beginning a condition leads to an alert; None if not at these evaluations.

    `missed` tells of each evaluation from the beginning on, due at multiples of `every`, whether it is missed.
    """
    first = -(-begin // every) * every
    evaluations = []
    for place, is_missed in enumerate(missed):
        if not is_missed:
            time = first + place * every
            evaluations.append((time, True))
            if times_of(hold, 0, evaluations)[1] is not None:
                return time - begin
    return None


class DelayTest(WatchTest):

    def test_least_delay(self):
        for every, hold, delay in ((5, 0, 0), (5, 1, 5), (5, 4, 5), (5, 5, 5), (5, 6, 10), (1, 7, 7), (1000, 1, 1000),
                                   (1000, 1000, 1000), (999, 1000, 1998)):
            self.gives(delay, least_delay, every, hold)

    def test_greatest_delay(self):
        for every, hold, missed, delay in (
            (5, 0, 0, 4), (5, 0, 1, 9), (5, 0, 20, 104), (5, 1, 0, 9), (5, 5, 0, 9), (5, 6, 0, 14), (5, 1, 1, 19), (5, 6, 1, 24),
            (5, 6, 2, 34), (1, 0, 0, 0), (1, 0, 3, 3), (1, 4, 0, 4), (1, 4, 3, 10), (1000, 1000, 20, 41999),
        ):
            self.gives(delay, greatest_delay, every, hold, missed)

    def test_no_alert_is_earlier_and_the_least_delay_occurs(self):
        for every in range(1, 6):
            for hold in range(8):
                found = [alert_after(every, hold, begin, [False] * 12) for begin in range(every)]
                self.assertEqual(min(found), least_delay(every, hold), (every, hold))
                self.assertEqual(max(found), greatest_delay(every, hold, 0), (every, hold))

    def test_no_alert_is_later_and_the_greatest_delay_occurs(self):
        for every, hold, most in itertools.product((1, 2, 3), (0, 1, 3, 4), (0, 1, 2)):
            many = 2 * most + 2 + -(-hold // every)
            patterns = ["".join(row) for row in itertools.product("+-", repeat=many)]
            patterns = [pattern for pattern in patterns if "-" * (most + 1) not in pattern]
            found = [alert_after(every, hold, begin, [sign == "-" for sign in pattern])
                     for begin in range(every) for pattern in patterns]
            self.assertNotIn(None, found)
            self.assertEqual(max(found), greatest_delay(every, hold, most), (every, hold, most))
            self.assertEqual(min(found), least_delay(every, hold), (every, hold, most))


if __name__ == "__main__":
    unittest.main()
