"""Points 58 and 60: gaps, persons, cycles and differences of schedules about all times."""

import math
import random
import unittest

from tests.drawn import drawn_schedule
from tests.support import WatchTest
from watchfloor.alltimes import cycle, ever_on_call, first_difference, first_gap
from watchfloor.calendars import on_call, period, settled
from watchfloor.errors import PeriodTooLong

ALWAYS = (("ann",), 0, 1, ())
DAYS = (("bob",), 0, 1, ((2, 5), (8, 10)))


def schedule(*layers, standins=()):
    return "all", layers, standins


def turns(many):
    """Return a schedule with the period `many`, an even number up to 2,000."""
    return schedule((("ann", "bob"), 0, many // 2, ()))


class GapTest(WatchTest):

    def test_gaps_that_end(self):
        made = schedule(DAYS)
        for time, gap in ((0, (0, 2)), (1, (1, 2)), (2, (5, 8)), (4, (5, 8)), (5, (5, 8)), (7, (7, 8)), (8, (10, 12)),
                          (10, (10, 12)), (10 ** 6 + 3, (10 ** 6 + 5, 10 ** 6 + 8))):
            self.gives(gap, first_gap, 10, made, time)

    def test_gap_before_a_start(self):
        made = schedule((("ann",), 7, 1, ()))
        self.gives((0, 7), first_gap, 10, made, 0)
        self.gives((6, 7), first_gap, 10, made, 6)
        self.gives(None, first_gap, 10, made, 7)
        self.gives((3, 10000), first_gap, 10, schedule((("ann",), 10000, 1, ())), 3)

    def test_gaps_that_never_end(self):
        for time in (0, 5, 10 ** 6):
            self.gives((time, None), first_gap, 10, schedule(), time)
        made = schedule(standins=((3, 9, "bob"),))
        self.gives((0, 3), first_gap, 10, made, 0)
        self.gives((9, None), first_gap, 10, made, 3)
        self.gives((9, None), first_gap, 10, made, 8)
        self.gives((12, None), first_gap, 10, made, 12)

    def test_no_gap(self):
        for time in (0, 5, 10 ** 6):
            self.gives(None, first_gap, 10, schedule(ALWAYS), time)
            self.gives(None, first_gap, 10, schedule((("ann",), 0, 1, ((0, 10),))), time)
        self.gives(None, first_gap, 10, schedule(DAYS, ALWAYS), 0)

    def test_gap_that_begins_behind_the_settled_time(self):
        made = schedule(DAYS, standins=((0, 13, "ann"), (15, 18, "ann")))
        self.gives((20, 22), first_gap, 10, made, 0)
        self.gives((25, 28), first_gap, 10, made, 22)
        made = schedule((("ann",), 4, 1, ((0, 9),)), standins=((0, 4, "bob"),))
        self.gives((9, 10), first_gap, 10, made, 0)

    def test_gap_that_goes_over_the_end_of_a_week(self):
        made = schedule((("ann",), 0, 1, ((2, 8),)))
        self.gives((8, 12), first_gap, 10, made, 2)
        self.gives((9, 12), first_gap, 10, made, 9)
        self.gives((0, 2), first_gap, 10, made, 0)

    def test_gap_longer_than_a_turn(self):
        made = schedule((("ann", "bob"), 0, 10, ((0, 1),)), (("bob",), 25, 5, ((3, 4),)))
        self.gives((1, 10), first_gap, 10, made, 0)
        self.gives((24, 30), first_gap, 10, made, 24)
        self.gives((31, 33), first_gap, 10, made, 30)


class EverTest(WatchTest):

    def test_persons_with_their_first_times(self):
        made = schedule(ALWAYS, DAYS, standins=((4, 6, "cy"), (4, 5, "dan")))
        self.gives([("ann", 0), ("bob", 2), ("dan", 4), ("cy", 5)], ever_on_call, 10, made, 0)
        self.gives([("bob", 3), ("dan", 4), ("cy", 5), ("ann", 6)], ever_on_call, 10, made, 3)

    def test_late_times(self):
        made = schedule(ALWAYS, DAYS, standins=((4, 6, "cy"),))
        self.gives([("cy", 5), ("ann", 6), ("bob", 8)], ever_on_call, 10, made, 5)
        self.gives([("ann", 6), ("bob", 8)], ever_on_call, 10, made, 6)
        self.gives([("bob", 10 ** 6 + 9), ("ann", 10 ** 6 + 10)], ever_on_call, 10, made, 10 ** 6 + 9)

    def test_persons_who_are_hidden(self):
        made = schedule(DAYS, ALWAYS)
        self.gives([("ann", 0)], ever_on_call, 10, made, 0)
        made = schedule((("ann", "bob"), 0, 5, ((0, 5),)))
        self.gives([("ann", 0)], ever_on_call, 10, made, 0)
        self.gives([("ann", 10)], ever_on_call, 10, made, 7)

    def test_nobody(self):
        self.gives([], ever_on_call, 10, schedule(), 0)
        self.gives([], ever_on_call, 10, schedule(standins=((3, 9, "bob"),)), 9)
        self.gives([("bob", 8)], ever_on_call, 10, schedule(standins=((3, 9, "bob"),)), 8)

    def test_somebody_who_comes_late(self):
        made = schedule(ALWAYS, (("bob", "cy"), 9999, 1000, ()))
        self.gives([("ann", 1), ("bob", 9999), ("cy", 10999)], ever_on_call, 10, made, 1)
        self.gives([("cy", 10999), ("bob", 11999)], ever_on_call, 10, made, 10999)


class CycleTest(WatchTest):

    def test_cycles_that_are_the_period(self):
        self.gives((0, 10), cycle, 10, schedule(DAYS))
        self.gives((0, 6), cycle, 10, turns(6))
        self.gives((0, 1), cycle, 10, schedule(ALWAYS))
        self.gives((4, 14), cycle, 7, schedule((("ann", "bob"), 4, 7, ((1, 2),))))

    def test_cycles_that_are_less(self):
        self.gives((0, 1), cycle, 10, schedule((("ann", "ann"), 0, 3, ())))
        self.gives((0, 6), cycle, 10, schedule((("ann", "bob", "ann", "bob"), 0, 3, ())))
        self.gives((0, 5), cycle, 10, schedule((("ann",), 0, 3, ((0, 2), (5, 7)))))
        self.gives((0, 1), cycle, 10, schedule((("ann",), 0, 3, ((0, 10),))))
        self.gives((0, 1), cycle, 10, schedule(DAYS, ALWAYS))
        self.gives((0, 10), cycle, 10, schedule((("ann", "bob"), 0, 5, ((0, 5),))))

    def test_nearly_a_lesser_cycle(self):
        self.gives((0, 12), cycle, 10, schedule((("ann", "bob", "ann", "cy"), 0, 3, ())))
        self.gives((0, 10), cycle, 10, schedule((("ann",), 0, 3, ((0, 2), (5, 8)))))

    def test_settled_time(self):
        self.gives((17, 1), cycle, 10, schedule(ALWAYS, standins=((3, 17, "ann"),)))
        self.gives((9, 1), cycle, 10, schedule(standins=((3, 9, "ann"),)))
        self.gives((0, 1), cycle, 10, schedule())

    def test_drawn_schedules(self):
        chance = random.Random(60)
        for _ in range(300):
            week = chance.choice((1, 2, 5, 6, 9))
            made = drawn_schedule(chance, "all", week)
            begun, many = settled(made), period(week, made)
            persons = [on_call(week, made, time) for time in range(begun, begun + 2 * many)]
            least = min(size for size in range(1, many + 1)
                        if all(persons[at] == persons[at + size] for at in range(2 * many - size)))
            self.gives((begun, least), cycle, week, made)
            self.assertEqual(many % least, 0)


class DifferenceTest(WatchTest):

    def test_at_once(self):
        self.gives((0, "ann", "bob"), first_difference, 10, schedule(ALWAYS), schedule((("bob",), 0, 1, ())), 0)
        self.gives((8, "ann", "bob"), first_difference, 10, schedule(ALWAYS), schedule(ALWAYS, DAYS), 8)
        self.gives((7, None, "ann"), first_difference, 10, schedule(), schedule(ALWAYS), 7)

    def test_late(self):
        made = schedule(ALWAYS, (("bob",), 10000, 1, ()))
        self.gives((10000, "ann", "bob"), first_difference, 10, schedule(ALWAYS), made, 3)
        self.gives((10000, "bob", "ann"), first_difference, 10, made, schedule(ALWAYS), 3)
        self.gives((20, "ann", "bob"), first_difference, 10, turns(10), turns(30), 10)
        self.gives((35, "bob", "ann"), first_difference, 10, turns(10), turns(30), 25)
        self.gives((20, None, "ann"), first_difference, 10, schedule(DAYS), schedule(ALWAYS, DAYS, standins=((0, 0, "x"),)), 18)

    def test_never(self):
        self.gives(None, first_difference, 10, schedule(), schedule(standins=((3, 9, "bob"),)), 9)
        self.gives((8, None, "bob"), first_difference, 10, schedule(), schedule(standins=((3, 9, "bob"),)), 8)
        self.gives(None, first_difference, 10, schedule(ALWAYS), schedule((("ann", "ann"), 0, 4, ())), 0)
        self.gives(None, first_difference, 10, schedule(), schedule(), 0)
        self.gives(None, first_difference, 10, turns(20), ("other", turns(20)[1], ()), 0)

    def test_schedules_that_begin_differently(self):
        one = schedule((("ann", "bob"), 0, 5, ()))
        other = schedule((("ann", "bob"), 10, 5, ()))
        self.gives((0, "ann", None), first_difference, 10, one, other, 0)
        self.gives(None, first_difference, 10, one, other, 10)
        self.gives((9, "bob", None), first_difference, 10, one, other, 9)

    def test_drawn_schedules(self):
        chance = random.Random(61)
        for _ in range(300):
            week = chance.choice((1, 2, 5, 9))
            one, other = drawn_schedule(chance, "one", week), drawn_schedule(chance, "other", week)
            time = chance.randint(0, 40)
            many = math.lcm(period(week, one), period(week, other))
            rows = [(at, on_call(week, one, at), on_call(week, other, at)) for at in range(time, time + 40 + many)]
            rows = [row for row in rows if row[1] != row[2]]
            self.gives(rows[0] if rows else None, first_difference, week, one, other, time)


class DrawnTest(WatchTest):

    def test_gaps_and_persons(self):
        chance = random.Random(62)
        for _ in range(300):
            week = chance.choice((1, 2, 5, 9))
            made = drawn_schedule(chance, "all", week)
            time = chance.randint(0, 40)
            last = time + 60 + 2 * period(week, made)
            persons = {at: on_call(week, made, at) for at in range(time, last)}
            self.gives(self.gap(persons), first_gap, week, made, time)
            known = list(dict.fromkeys(person for person in persons.values() if person is not None))
            firsts = [(person, min(at for at in persons if persons[at] == person)) for person in known]
            self.gives(firsts, ever_on_call, week, made, time)

    def gap(self, persons):
        """Return the first gap of persons, told by times."""
        free = [at for at in persons if persons[at] is None]
        if not free:
            return None
        return free[0], min((at for at in persons if at > free[0] and persons[at] is not None), default=None)


class PeriodTest(WatchTest):

    def all_take(self, week, made):
        first_gap(week, made, 0)
        ever_on_call(week, made, 0)
        cycle(week, made)
        first_difference(week, made, made, 0)

    def all_refuse(self, week, made):
        for time in (0, 9, 10 ** 6):
            self.refused(PeriodTooLong, {}, first_gap, week, made, time)
            self.refused(PeriodTooLong, {}, ever_on_call, week, made, time)
            self.refused(PeriodTooLong, {}, first_difference, week, made, made, time)
            self.refused(PeriodTooLong, {}, first_difference, week, made, schedule(), time)
            self.refused(PeriodTooLong, {}, first_difference, week, schedule(), made, time)
        self.refused(PeriodTooLong, {}, cycle, week, made)

    def test_two_thousand(self):
        self.all_take(10, turns(2000))
        self.all_take(2000, schedule(DAYS))
        self.all_take(10, schedule((("ann", "bob"), 0, 1000, ()), (("ann",), 0, 1000, ((0, 1),))))
        self.gives((0, 2000), cycle, 10, turns(2000))

    def test_beyond(self):
        self.all_refuse(10, turns(2002))
        self.all_refuse(10, schedule((("ann",) * 3, 0, 667, ())))
        self.all_refuse(1999, schedule((("ann", "bob"), 0, 1, ((0, 1),))))
        self.all_refuse(10, schedule((("ann",) * 10, 0, 1000, ()), (("bob",) * 10, 0, 999, ())))

    def test_both_schedules_together(self):
        self.gives(None, first_difference, 10, turns(2000), turns(2000), 0)
        self.gives((500, "ann", "bob"), first_difference, 10, turns(2000), turns(1000), 0)
        self.refused(PeriodTooLong, {}, first_difference, 10, turns(2000), turns(6), 0)
        self.refused(PeriodTooLong, {}, first_difference, 10, turns(6), turns(2000), 0)
        self.refused(PeriodTooLong, {}, first_difference, 10, turns(86), turns(94), 0)
        self.refused(PeriodTooLong, {}, first_difference, 7, turns(2000), schedule((("ann",), 0, 1, ((0, 1),))), 0)
        first_difference(10, turns(2000), schedule((("ann",), 0, 1, ((0, 1),))), 0)


if __name__ == "__main__":
    unittest.main()
