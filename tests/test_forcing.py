"""Points 78 to 82: when pages are forced, and when they can fail, precede, begin and follow."""

import random
import unittest

from tests.drawn import drawn_setup, one_person
from tests.support import WatchTest
from watchfloor.escalation import is_muted
from watchfloor.forcing import can_begin, can_fail, can_follow, can_precede, is_forced, slack

WINDOWS = [("noon", ((3, 5),)), ("night", ((8, 10), (0, 1))), ("all", ((0, 10),))]
SLOW = one_person(windows=WINDOWS, replicas=3, pause=2)
FAST = one_person(windows=WINDOWS)


def settings(wait=3, interval=5, again=8, mutes=()):
    return (), wait, interval, again, mutes, "page"


class SlackTest(WatchTest):

    def test_slack(self):
        for replicas, pause, expected in ((1, 0, 0), (1, 1000, 0), (2, 7, 7), (3, 2, 4), (5, 1000, 4000), (4, 0, 0)):
            self.gives(expected, slack, one_person(replicas=replicas, pause=pause))


class ForcedTest(WatchTest):

    def test_slack_behind_the_due_time(self):
        for first, last, forced in ((0, 14, False), (0, 15, True), (14, 15, True), (15, 16, True), (14, 14, False), (15, 14, False),
                                    (20, 21, True), (100, 101, True), (0, 10000, True)):
            self.gives(forced, is_forced, SLOW, settings(), 10, first, last)
            self.gives(forced, is_forced, FAST, settings(), 14, first, last)

    def test_over_mutes(self):
        for first, last, forced in ((0, 21, False), (0, 22, True), (18, 21, False), (18, 22, True), (21, 22, True), (20, 21, False)):
            self.gives(forced, is_forced, SLOW, settings(mutes=("night",)), 14, first, last)
        self.gives(True, is_forced, SLOW, settings(mutes=("night",)), 13, 17, 18)
        self.gives(False, is_forced, SLOW, settings(mutes=("night", "noon")), 19, 23, 25)
        self.gives(True, is_forced, SLOW, settings(mutes=("night", "noon")), 19, 23, 26)

    def test_muted_for_ever(self):
        for first, last in ((0, 10), (5, 1000), (0, 10 ** 6)):
            self.gives(False, is_forced, SLOW, settings(mutes=("noon", "all")), 0, first, last)

    def test_empty_ranges(self):
        self.gives(False, is_forced, FAST, settings(), 0, 5, 5)
        self.gives(False, is_forced, FAST, settings(), 0, 5, 4)


class FailTest(WatchTest):

    MADE = one_person(people=[("ann", 2), ("bob", 1)], down=1,
                      schedules=[("turns", ((("ann", "bob"), 0, 5, ()),), ()), ("days", ((("ann",), 0, 1, ((2, 4),)),), ())],
                      policies=[("page", (("turns", 4), ("days", 7), ("turns", 1)))])

    def test_levels_up_to_the_end(self):
        for time, end, fails in (
            (0, 0, True), (0, 1, False), (0, 9, False), (3, 4, False), (4, 5, True), (4, 10, True), (4, 11, True), (4, 100, True),
            (5, 11, True), (5, 12, False), (6, 9, True), (6, 10, False), (9, 9, True), (9, 10, False), (5, 5, True), (5, 4, True),
        ):
            self.gives(fails, can_fail, self.MADE, settings(), end, time)

    def test_persons_who_are_not_sure(self):
        self.gives(True, can_fail, one_person(down=2), settings(), 100, 0)
        self.gives(False, can_fail, one_person(down=1), settings(), 0, 0)
        self.gives(True, can_fail, one_person(down=1), settings(), 4, 5)
        self.gives(False, can_fail, one_person(down=1), settings(), 5, 5)


class PrecedeTest(WatchTest):

    def precede(self, made, told, start):
        """Return the times that can precede a start."""
        return [time for time in range(start + 20) if can_precede(made, told, start, time)]

    def test_first_and_last_time(self):
        self.assertEqual(self.precede(FAST, settings(), 40), list(range(32, 40)))
        self.assertEqual(self.precede(SLOW, settings(), 40), list(range(28, 40)))
        self.gives(True, can_precede, SLOW, settings(), 40, 28)
        self.gives(False, can_precede, SLOW, settings(), 40, 27)
        self.gives(True, can_precede, SLOW, settings(), 40, 39)
        self.gives(False, can_precede, SLOW, settings(), 40, 40)

    def test_wait(self):
        self.assertEqual(self.precede(SLOW, settings(), 9), [3, 4, 5, 6, 7, 8])
        self.assertEqual(self.precede(SLOW, settings(wait=0), 2), [0, 1])
        self.assertEqual(self.precede(SLOW, settings(), 3), [])
        self.assertEqual(self.precede(SLOW, settings(), 0), [])

    def test_mutes(self):
        self.assertEqual(self.precede(FAST, settings(mutes=("noon",)), 40), [32, 35, 36, 37, 38, 39])
        self.assertEqual(self.precede(FAST, settings(mutes=("night",)), 41), [31, 32, 33, 34, 35, 36, 37])
        self.assertEqual(self.precede(FAST, settings(mutes=("night",)), 42), [34, 35, 36, 37, 41])
        self.assertEqual(self.precede(FAST, settings(mutes=("all",)), 40), [])


class BeginTest(WatchTest):

    def begin(self, made, told, start, before):
        """Return the times at which the first page can be."""
        return [time for time in range(start + 40) if can_begin(made, told, start, before, time)]

    def test_without_a_page_before(self):
        self.assertEqual(self.begin(FAST, settings(), 20, None), [20, 21, 22, 23])
        self.assertEqual(self.begin(SLOW, settings(), 20, None), list(range(20, 28)))
        self.gives(False, can_begin, SLOW, settings(), 20, None, 19)
        self.gives(True, can_begin, SLOW, settings(), 20, None, 20)
        self.gives(True, can_begin, SLOW, settings(), 20, None, 27)
        self.gives(False, can_begin, SLOW, settings(), 20, None, 28)

    def test_wait(self):
        self.assertEqual(self.begin(FAST, settings(), 0, None), [3])
        self.assertEqual(self.begin(FAST, settings(), 2, None), [3, 4, 5])
        self.assertEqual(self.begin(FAST, settings(wait=0), 0, None), [0])

    def test_with_a_page_before(self):
        self.assertEqual(self.begin(FAST, settings(), 20, 19), [24])
        self.assertEqual(self.begin(SLOW, settings(), 20, 19), [24, 25, 26, 27, 28])
        self.assertEqual(self.begin(SLOW, settings(), 20, 17), [22, 23, 24, 25, 26])
        self.assertEqual(self.begin(SLOW, settings(), 20, 13), [20, 21, 22])
        self.assertEqual(self.begin(SLOW, settings(), 20, 8), [20])
        self.assertEqual(self.begin(SLOW, settings(), 20, 3), [20])
        self.assertEqual(self.begin(SLOW, settings(wait=900), 20, 19), [24, 25, 26, 27, 28])

    def test_mutes(self):
        self.assertEqual(self.begin(FAST, settings(mutes=("noon",)), 20, None), [20, 21, 22, 25])
        self.assertEqual(self.begin(SLOW, settings(mutes=("night",)), 20, None), [21, 22, 23, 24, 25, 26, 27])
        self.assertEqual(self.begin(FAST, settings(mutes=("night",)), 25, 24), [31])
        self.assertEqual(self.begin(FAST, settings(mutes=("all",)), 25, 24), [])


class FollowTest(WatchTest):

    def follow(self, made, told, time):
        """Return the times at which the page after one at a time can be."""
        return [later for later in range(time + 40) if can_follow(made, told, time, later)]

    def test_first_and_last_time(self):
        self.assertEqual(self.follow(FAST, settings(), 20), [25, 26, 27, 28])
        self.assertEqual(self.follow(SLOW, settings(), 20), list(range(25, 33)))
        self.gives(False, can_follow, SLOW, settings(), 20, 24)
        self.gives(True, can_follow, SLOW, settings(), 20, 25)
        self.gives(True, can_follow, SLOW, settings(), 20, 32)
        self.gives(False, can_follow, SLOW, settings(), 20, 33)
        self.assertEqual(self.follow(FAST, settings(interval=1, again=1), 20), [21])

    def test_mutes(self):
        self.assertEqual(self.follow(FAST, settings(mutes=("night",)), 20), [25, 26, 27, 31])
        self.assertEqual(self.follow(FAST, settings(mutes=("noon",)), 27), [32, 35])
        self.assertEqual(self.follow(FAST, settings(mutes=("all",)), 27), [])


class DrawnTest(WatchTest):

    def test_drawn_setups(self):
        chance = random.Random(78)
        for _ in range(150):
            made = drawn_setup(chance)
            told = made.routes[0][2]
            _, wait, interval, again, mutes, _ = told
            behind = (made.replicas - 1) * made.pause
            free = [time for time in range(80) if not is_muted(made, mutes, time)]

            def forced(due, first, last):
                return any(first <= time < last and due + behind <= time for time in free)

            start, before = chance.randint(0, 20), chance.choice((None, chance.randint(0, 20)))
            for time in range(50):
                due, last = chance.randint(0, 30), chance.randint(0, 50)
                self.gives(forced(due, time, last), is_forced, made, told, due, time, last)
                self.gives(wait <= time < start and time in free and not forced(time + again, time + 1, start),
                           can_precede, made, told, start, time)
                due = start + wait if before is None else before + interval
                least = wait if before is None else before + interval
                self.gives(start <= time and time in free and least <= time and not forced(due, start, time),
                           can_begin, made, told, start, before, time)
                self.gives(start + interval <= time and time in free and not forced(start + again, start + 1, time),
                           can_follow, made, told, start, time)


if __name__ == "__main__":
    unittest.main()
