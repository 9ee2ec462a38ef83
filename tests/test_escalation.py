"""Points 62 to 65: mutes, plans and delays of policies."""

import math
import random
import unittest

from tests.drawn import drawn_setup, one_person
from tests.support import WatchTest
from watchfloor.calendars import on_call, period, settled
from watchfloor.errors import PeriodTooLong
from watchfloor.escalation import (
    delay, is_muted, is_sure, longest_mute, plan, policy_gap, unmuted_from, worst_delay,
)
from watchfloor.setup import channels_of, policy_of, schedule_of, window_of

WINDOWS = [("noon", ((3, 5),)), ("night", ((8, 10), (0, 1))), ("day", ((4, 8),)), ("all", ((0, 10),)), ("late", ((1, 10),))]
MUTED = one_person(windows=WINDOWS)


class MuteTest(WatchTest):

    def test_windows_at_their_first_and_last_time(self):
        for time in range(45):
            at = time % 10
            self.gives(3 <= at < 5, is_muted, MUTED, ("noon",), time)
            self.gives(at >= 8 or at < 1, is_muted, MUTED, ("night",), time)
            self.gives(3 <= at < 8, is_muted, MUTED, ("noon", "day"), time)
            self.gives(at < 1 or 3 <= at < 5 or at >= 8, is_muted, MUTED, ("night", "noon", "night"), time)
            self.gives(False, is_muted, MUTED, (), time)
            self.gives(True, is_muted, MUTED, ("noon", "all"), time)

    def test_unmuted_from(self):
        for mutes, time, free in (
            ((), 5, 5), (("noon",), 2, 2), (("noon",), 3, 5), (("noon",), 4, 5), (("noon",), 5, 5), (("noon", "day"), 3, 8),
            (("night",), 8, 11), (("night",), 10, 11), (("night",), 19, 21), (("noon", "day", "night"), 3, 11),
            (("night", "noon", "day"), 11, 11), (("late",), 1, 10), (("late",), 10 ** 6 + 4, 10 ** 6 + 10),
        ):
            self.gives(free, unmuted_from, MUTED, mutes, time)

    def test_muted_for_ever(self):
        for mutes in (("all",), ("noon", "all"), ("late", "night"), ("late", "night", "day")):
            for time in (0, 3, 10 ** 6 + 7):
                self.gives(None, unmuted_from, MUTED, mutes, time)
                self.gives((time, None), longest_mute, MUTED, mutes, time)
                self.gives(True, is_muted, MUTED, mutes, time)

    def test_never_muted(self):
        for time in (0, 3, 10 ** 6 + 7):
            self.gives(time, unmuted_from, MUTED, (), time)
            self.gives(None, longest_mute, MUTED, (), time)

    def test_longest_mute(self):
        for mutes, time, mute in (
            (("noon",), 0, (3, 5)), (("noon",), 3, (3, 5)), (("noon",), 4, (13, 15)), (("noon",), 5, (13, 15)),
            (("noon", "day"), 0, (3, 8)), (("noon", "day"), 7, (13, 18)), (("noon", "night"), 0, (8, 11)),
            (("noon", "night"), 9, (18, 21)), (("noon", "night"), 10 ** 6, (10 ** 6 + 8, 10 ** 6 + 11)),
        ):
            self.gives(mute, longest_mute, MUTED, mutes, time)

    def test_longest_mute_over_the_end_of_a_week(self):
        self.gives((8, 11), longest_mute, MUTED, ("night",), 0)
        self.gives((8, 11), longest_mute, MUTED, ("night",), 8)
        self.gives((18, 21), longest_mute, MUTED, ("night",), 9)
        self.gives((1, 10), longest_mute, MUTED, ("late",), 0)
        self.gives((11, 20), longest_mute, MUTED, ("late",), 2)

    def test_first_of_several_longest_mutes(self):
        made = one_person(windows=[("three", ((1, 3), (5, 6), (8, 10)))])
        self.gives((1, 3), longest_mute, made, ("three",), 0)
        self.gives((8, 10), longest_mute, made, ("three",), 2)
        self.gives((8, 10), longest_mute, made, ("three",), 6)
        self.gives((11, 13), longest_mute, made, ("three",), 9)

    def test_drawn_windows(self):
        chance = random.Random(62)
        for _ in range(300):
            made = drawn_setup(chance)
            mutes = chance.choice((("noon",), ("night",), ("noon", "night")))
            spans = [span for name in mutes for span in window_of(made, name)[1]]
            time = chance.randint(0, 30)
            muted = {at: any(first <= at % made.week < last for first, last in spans) for at in range(time, time + 50)}
            for at in range(time, time + 20):
                self.gives(muted[at], is_muted, made, mutes, at)
                self.gives(min((later for later in muted if later >= at and not muted[later]), default=None),
                           unmuted_from, made, mutes, at)
            self.gives(self.longest(muted, time), longest_mute, made, mutes, time)

    def longest(self, muted, time):
        """Return the longest mute, if these times are muted or not."""
        if all(muted.values()):
            return time, None
        # Series that begin in the last weeks are repetitions, and the end hides how long they are.
        found = [(first, last) for first in range(time, time + 25) for last in range(first + 1, first + 25)
                 if all(muted[at] for at in range(first, last))]
        return max(found, key=lambda mute: (mute[1] - mute[0], -mute[0]), default=None)


PEOPLE = [("ann", 2), ("bob", 1), ("cy", 0), ("dan", 3)]
SCHEDULES = [
    ("turns", ((("ann", "bob"), 0, 5, ()),), ()),
    ("days", ((("dan",), 0, 1, ((2, 6),)),), ()),
    ("never", (), ()),
    ("none", ((("cy",), 0, 1, ()),), ((20, 30, "ann"),)),
    ("long", ((("ann", "bob"), 0, 1000, ()),), ()),
    ("odd", ((("ann", "bob", "ann"), 0, 1, ()),), ()),
]
POLICIES = [
    ("page", (("turns", 0), ("days", 3), ("never", 4), ("turns", 4))),
    ("late", (("days", 7), ("turns", 2), ("turns", 2))),
    ("nobody", (("never", 0), ("never", 9))),
    ("unsure", (("none", 0), ("none", 5))),
    ("surely", (("turns", 0), ("turns", 5))),
    ("long", (("long", 0),)),
    ("both", (("long", 0), ("odd", 0))),
    ("week", (("long", 0), ("days", 0))),
]


def people(down=1, week=10):
    return one_person(week=week, people=PEOPLE, schedules=SCHEDULES, policies=POLICIES, down=down,
                      routes=[(None, (), ((), 0, 5, 20, (), "page"))])


class PlanTest(WatchTest):

    def test_sure(self):
        for down in range(4):
            for name, channels in PEOPLE:
                self.gives(channels > down, is_sure, people(down), name)

    def test_levels_in_their_order(self):
        self.gives([(0, "ann", True), (3, "dan", True), (4, "ann", True)], plan, people(), "page", 0)
        self.gives([(1, "ann", True), (4, "dan", True), (5, "bob", False)], plan, people(), "page", 1)
        self.gives([(5, "bob", False), (9, "bob", False)], plan, people(), "page", 5)
        self.gives([(12, "dan", True), (7, "bob", False), (7, "bob", False)], plan, people(), "late", 5)
        self.gives([(23, "dan", True), (18, "bob", False), (18, "bob", False)], plan, people(), "late", 16)

    def test_levels_that_ring_nobody(self):
        self.gives([], plan, people(), "nobody", 3)
        self.gives([(12, "ann", True), (12, "ann", True)], plan, people(), "late", 10)

    def test_late_beginnings(self):
        self.gives([(10 ** 6, "ann", True), (10 ** 6 + 3, "dan", True), (10 ** 6 + 4, "ann", True)], plan, people(), "page", 10 ** 6)

    def test_delay(self):
        for time, expected in ((0, 0), (4, 0), (5, None), (6, 4), (7, 4), (8, 4), (9, 3), (10, 0)):
            self.gives(expected, delay, people(), "page", time)
        self.gives(None, delay, people(), "nobody", 0)
        self.gives(None, delay, people(), "unsure", 0)
        self.gives(5, delay, people(), "unsure", 15)
        self.gives(0, delay, people(), "unsure", 20)
        self.gives(7, delay, people(), "late", 5)
        self.gives(2, delay, people(), "late", 8)
        self.gives(7, delay, people(2), "late", 8)
        self.gives(None, delay, people(3), "late", 8)
        self.gives(0, delay, people(0), "page", 5)


class AllTimesTest(WatchTest):

    def test_gap(self):
        for time, gap in ((0, 5), (5, 5), (6, 15), (15, 15), (10 ** 6, 10 ** 6 + 5)):
            self.gives(gap, policy_gap, people(), "page", time)
            self.gives(None, worst_delay, people(), "page", time)
        self.gives(3, policy_gap, people(), "nobody", 3)
        self.gives(0, policy_gap, people(), "unsure", 0)
        self.gives(30, policy_gap, people(), "unsure", 15)
        self.gives(None, worst_delay, people(), "unsure", 15)
        self.gives(1000, policy_gap, people(), "long", 0)

    def test_gap_behind_the_last_standin_by_the_time_of_the_last_level(self):
        made = one_person(people=PEOPLE, schedules=[("all", ((("bob",), 0, 1, ()),), ((0, 50, "ann"),))], down=1,
                          policies=[("page", (("all", 0), ("all", 40)))])
        self.gives(50, policy_gap, made, "page", 0)
        self.gives(51, policy_gap, made, "page", 51)

    def test_worst_delay(self):
        self.gives((5, 5), worst_delay, people(), "surely", 0)
        self.gives((5, 5), worst_delay, people(), "surely", 5)
        self.gives((5, 6), worst_delay, people(), "surely", 6)
        self.gives((5, 15), worst_delay, people(), "surely", 10)
        self.gives((0, 7), worst_delay, people(0), "surely", 7)
        for time in (0, 6, 1234):
            self.gives(None, policy_gap, people(), "surely", time)
            self.gives(None, policy_gap, people(0), "page", time)

    def test_worst_delay_is_told_with_its_first_beginning(self):
        made = one_person(people=PEOPLE, schedules=SCHEDULES, down=1, policies=[("page", (("days", 0), ("turns", 5), ("turns", 10)))])
        self.gives((10, 0), worst_delay, made, "page", 0)
        self.gives((10, 1), worst_delay, made, "page", 1)
        self.gives((10, 10), worst_delay, made, "page", 2)
        self.assertEqual([delay(made, "page", time) for time in (2, 5, 11)], [0, 0, 10])

    def test_drawn_policies(self):
        chance = random.Random(65)
        gaps = 0
        for _ in range(400):
            made = drawn_setup(chance, down=chance.choice((0, 0, 1, 2)))
            time = chance.randint(0, 40)
            schedules = [schedule_of(made, name) for name, _ in policy_of(made, "page")[1]]
            many = math.lcm(*[period(made.week, schedule) for schedule in schedules])
            last = max([time] + [settled(schedule) for schedule in schedules]) + many
            delays = [self.plain_delay(made, begun) for begun in range(time, last)]
            self.assertEqual(delays[:40], [delay(made, "page", begun) for begun in range(time, last)][:40])
            if None in delays:
                gaps += 1
                self.gives(time + delays.index(None), policy_gap, made, "page", time)
                self.gives(None, worst_delay, made, "page", time)
            else:
                self.gives(None, policy_gap, made, "page", time)
                self.gives((max(delays), time + delays.index(max(delays))), worst_delay, made, "page", time)
        self.assertTrue(50 < gaps < 380, gaps)

    def plain_delay(self, made, begun):
        """Return the delay of the policy `page`, from points 63 and 64 word for word."""
        found = []
        for name, after in policy_of(made, "page")[1]:
            person = on_call(made.week, schedule_of(made, name), begun + after)
            if person is not None and channels_of(made, person) > made.down:
                found.append(after)
        return min(found, default=None)


class PeriodTest(WatchTest):

    def test_two_thousand(self):
        self.gives(1000, policy_gap, people(), "long", 7)
        self.gives((0, 7), worst_delay, people(0), "long", 7)
        self.gives(1000, policy_gap, people(), "week", 7)
        self.gives(1006, policy_gap, people(), "week", 1002)

    def test_beyond(self):
        for made in (people(), people(0)):
            for time in (0, 10 ** 6):
                self.refused(PeriodTooLong, {}, policy_gap, made, "both", time)
                self.refused(PeriodTooLong, {}, worst_delay, made, "both", time)
        self.refused(PeriodTooLong, {}, policy_gap, people(week=11), "week", 0)
        self.refused(PeriodTooLong, {}, worst_delay, people(week=11), "week", 0)
        self.gives([(0, "ann", True), (0, "ann", True)], plan, people(), "both", 0)
        self.gives(0, delay, people(), "both", 0)

    def test_odd_periods(self):
        made = one_person(week=1999, people=PEOPLE, schedules=[("all", ((("ann",), 0, 1, ((0, 5),)),), ())])
        self.gives(1998, policy_gap, one_person(week=1999, schedules=[("all", ((("ann",), 0, 1, ((0, 1998),)),), ())]), "page", 0)
        self.gives(5, policy_gap, made, "page", 0)
        whole = one_person(week=1999, schedules=[("all", ((("ann",), 0, 1, ((0, 1999),)),), ())])
        self.gives((0, 3), worst_delay, whole, "page", 3)

    def test_the_week_counts_only_with_spans(self):
        self.gives(None, policy_gap, people(0, week=1999), "long", 0)
        self.gives(5, policy_gap, one_person(week=1999, people=PEOPLE, schedules=SCHEDULES, down=1,
                                             policies=[("page", (("turns", 0),))]), "page", 0)


if __name__ == "__main__":
    unittest.main()
