"""Point 88: a limit for all starts."""

import math
import random
import unittest

from tests.drawn import ALERTS, drawn_setup, one_person
from tests.support import WatchTest
from watchfloor.calendars import period, settled
from watchfloor.errors import PeriodTooLong
from watchfloor.escalation import delay, is_muted
from watchfloor.gaps import gap_between
from watchfloor.routes import settings_of
from watchfloor.setup import policy_of, schedule_of
from watchfloor.sure import sure_limit

A, B = (("job", "a"),), (("job", "b"),)
WINDOWS = [("noon", ((3, 5),)), ("night", ((8, 10), (0, 1))), ("all", ((0, 10),))]


def routed(wait=0, interval=1, mutes=(), **others):
    """Return a setup with one route."""
    return one_person(windows=WINDOWS, routes=[(None, (), ((), wait, interval, 20, mutes, "page"))], **others)


class LimitTest(WatchTest):

    def test_due_and_slack(self):
        for wait, interval, replicas, pause, limit in (
            (0, 1, 1, 9, 0), (4, 1, 1, 9, 4), (0, 8, 1, 9, 7), (4, 8, 1, 9, 7), (7, 8, 1, 9, 7), (8, 8, 1, 9, 8), (3, 4, 3, 10, 23),
            (0, 20, 5, 1000, 4019),
        ):
            self.gives(limit, sure_limit, routed(wait, interval, replicas=replicas, pause=pause), A, 0)
            self.gives(limit, sure_limit, routed(wait, interval, replicas=replicas, pause=pause), A, 10 ** 6)

    def test_mutes(self):
        for time in (0, 3, 9, 10 ** 6 + 4):
            self.gives(2, sure_limit, routed(mutes=("noon",)), A, time)
            self.gives(3, sure_limit, routed(mutes=("noon", "night")), A, time)
            self.gives(13, sure_limit, routed(10, 5, mutes=("noon", "night")), A, time)

    def test_delays(self):
        turns = [("all", ((("ann", "bob"), 0, 5, ()),), ())]
        people = [("ann", 1), ("bob", 2)]
        made = routed(people=people, schedules=turns, down=1, policies=[("page", (("all", 0), ("all", 5)))])
        self.gives(5, sure_limit, made, A, 0)
        self.gives(5, sure_limit, made, A, 7)
        muted = routed(mutes=("noon",), people=people, schedules=turns, down=1, policies=[("page", (("all", 0), ("all", 5)))])
        self.gives(5, sure_limit, muted, A, 0)
        self.gives(9, sure_limit, routed(4, 5, people=people, schedules=turns, down=1,
                                         policies=[("page", (("all", 5), ("all", 0)))]), A, 0)

    def test_delay_and_mute_at_the_same_time(self):
        made = routed(mutes=("noon",), people=[("ann", 1), ("bob", 2)], down=1,
                      schedules=[("all", ((("bob",), 0, 1, ()), (("ann",), 0, 1, ((5, 6),))), ())],
                      policies=[("page", (("all", 0), ("all", 3)))])
        self.gives(5, sure_limit, made, A, 0)
        self.gives(5, sure_limit, made, A, 4)

    def test_mute_before_the_given_time_does_not_count(self):
        turns = [("all", ((("bob",), 0, 1, ()), (("ann",), 0, 1, ((5, 6),))), ((6, 100, "bob"), (16, 100, "bob")))]
        made = routed(mutes=("noon",), people=[("ann", 1), ("bob", 2)], down=1, schedules=turns,
                      policies=[("page", (("all", 0), ("all", 3)))])
        self.gives(5, sure_limit, made, A, 0)
        self.gives(5, sure_limit, made, A, 6)
        later = [("all", ((("bob",), 0, 1, ()),), ((5, 6, "ann"),))]
        made = routed(mutes=("noon",), people=[("ann", 1), ("bob", 2)], down=1, schedules=later,
                      policies=[("page", (("all", 0), ("all", 3)))])
        for time, limit in ((3, 5), (4, 4), (5, 3), (6, 2)):
            self.gives(limit, sure_limit, made, A, time)

    def test_no_delay_at_some_time(self):
        turns = [("all", ((("ann", "bob"), 0, 5, ()),), ())]
        people = [("ann", 1), ("bob", 2)]
        self.gives(None, sure_limit, routed(people=people, schedules=turns, down=1), A, 0)
        self.gives(None, sure_limit, routed(down=2), A, 0)
        self.gives(0, sure_limit, routed(down=1), A, 0)
        once = [("all", ((("ann",), 0, 1, ()),), ((50, 51, "bob"),))]
        people = [("ann", 2), ("bob", 1)]
        self.gives(None, sure_limit, routed(people=people, schedules=once, down=1), A, 0)
        self.gives(None, sure_limit, routed(people=people, schedules=once, down=1), A, 50)
        self.gives(0, sure_limit, routed(people=people, schedules=once, down=1), A, 51)
        self.gives(2, sure_limit, routed(people=people, schedules=[("all", ((("ann",), 0, 1, ()),), ((53, 54, "bob"),))], down=1,
                                         mutes=("noon",)), A, 0)

    def test_muted_for_ever(self):
        for time in (0, 5, 10 ** 6):
            self.gives(None, sure_limit, routed(mutes=("noon", "all")), A, time)

    def test_route_of_the_alert(self):
        routes = [(None, (), ((), 3, 1, 20, (), "page")), (0, (("job", ("b",), True),), ((), 7, 1, 20, (), "page"))]
        self.gives(3, sure_limit, one_person(routes=routes), A, 0)
        self.gives(7, sure_limit, one_person(routes=routes), B, 0)


class PeriodTest(WatchTest):

    def made(self, many, week=10, mutes=(), shift=1):
        return one_person(week, windows=[("noon", ((0, 1),))], schedules=[("all", ((("ann",) * many, 0, shift, ()),), ())],
                          routes=[(None, (), ((), 0, 1, 20, mutes, "page"))])

    def test_without_mutes(self):
        self.gives(0, sure_limit, self.made(2, shift=1000), A, 0)
        self.gives(0, sure_limit, self.made(2, week=1999, shift=1000), A, 0)
        self.refused(PeriodTooLong, {}, sure_limit, self.made(3, shift=667), A, 0)
        self.refused(PeriodTooLong, {}, sure_limit, self.made(10, shift=1000), A, 10 ** 6)

    def test_odd_periods(self):
        self.gives(0, sure_limit, self.made(3, shift=665), A, 0)
        self.gives(1, sure_limit, self.made(3, week=3, shift=665, mutes=("noon",)), A, 0)
        self.gives(1, sure_limit, self.made(1, week=1999, mutes=("noon",)), A, 0)

    def test_with_mutes(self):
        self.gives(1, sure_limit, self.made(2, shift=1000, mutes=("noon",)), A, 0)
        self.gives(1, sure_limit, self.made(2, week=2000, shift=8, mutes=("noon",)), A, 0)
        self.gives(1, sure_limit, self.made(1, week=2000, mutes=("noon",)), A, 0)
        self.refused(PeriodTooLong, {}, sure_limit, self.made(2, week=3, shift=1000, mutes=("noon",)), A, 0)
        self.refused(PeriodTooLong, {}, sure_limit, self.made(2, week=1001, mutes=("noon",)), A, 0)
        self.gives(1, sure_limit, self.made(2, week=999, mutes=("noon",)), A, 0)

    def test_before_everything_else(self):
        made = one_person(1, windows=[("noon", ((0, 1),))], down=5, schedules=[("all", ((("ann",) * 3, 0, 667, ()),), ())],
                          routes=[(None, (), ((), 0, 1, 20, ("noon",), "page"))])
        self.refused(PeriodTooLong, {}, sure_limit, made, A, 0)


class DrawnTest(WatchTest):

    def plain_limit(self, made, labels, time):
        """Return the limit by point 88 word for word, over more times than are needed."""
        _, wait, interval, _, mutes, policy = settings_of(made.routes, labels)
        schedules = [schedule_of(made, name) for name, _ in policy_of(made, policy)[1]]
        many = math.lcm(made.week, *[period(made.week, schedule) for schedule in schedules])
        last = max([time] + [settled(schedule) for schedule in schedules]) + made.week + 2 * many
        free = [at for at in range(time, last) if not is_muted(made, mutes, at)]
        sums = []
        for at in free:
            muted = 0
            while at - muted - 1 >= time and is_muted(made, mutes, at - muted - 1):
                muted += 1
            least = delay(made, policy, at)
            if least is None:
                return None
            sums.append(muted + least)
        if not sums:
            return None
        return max(wait, interval - 1) + (made.replicas - 1) * made.pause + max(sums)

    def test_limits(self):
        chance = random.Random(88)
        limits = []
        for _ in range(250):
            made, labels, time = drawn_setup(chance, down=chance.choice((0, 0, 1))), chance.choice(ALERTS), chance.randint(0, 30)
            limit = self.plain_limit(made, labels, time)
            self.gives(limit, sure_limit, made, labels, time)
            limits.append(limit)
        self.assertGreater(len(set(limits)), 8)
        self.assertGreater(sum(limit is not None for limit in limits), 50)

    def test_no_start_has_a_gap(self):
        chance = random.Random(89)
        for _ in range(250):
            made, labels, time = drawn_setup(chance, down=chance.choice((0, 0, 1))), chance.choice(ALERTS), chance.randint(0, 30)
            limit = sure_limit(made, labels, time)
            if limit is not None:
                self.gives(None, gap_between, made, labels, time, time + 100, limit)


if __name__ == "__main__":
    unittest.main()
