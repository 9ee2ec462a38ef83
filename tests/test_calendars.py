"""Points 54 to 59 and 61: spans, layers, schedules, their breaks, periods, stretches and duties."""

import math
import random
import unittest

from tests.drawn import drawn_schedule
from tests.support import WatchTest
from watchfloor.calendars import duties, in_spans, next_break, on_call, on_layer, period, settled, stretches

ALWAYS = (("ann",), 0, 1, ())
TURNS = (("ann", "bob", "ann", "cy"), 10, 3, ())
DAYS = (("dan", "eve"), 4, 7, ((2, 5), (8, 10)))


def schedule(*layers, standins=()):
    return "all", layers, standins


class SpansTest(WatchTest):

    def test_first_and_last_time(self):
        for time, inside in ((1, False), (2, True), (4, True), (5, False), (11, False), (12, True), (14, True), (15, False)):
            self.gives(inside, in_spans, 10, ((2, 5),), time)

    def test_end_of_the_week(self):
        for time, inside in ((7, False), (8, True), (9, True), (10, False), (18, True), (19, True), (20, False)):
            self.gives(inside, in_spans, 10, ((8, 10),), time)
        for time in (0, 9, 10, 12345):
            self.gives(True, in_spans, 10, ((0, 10),), time)
        self.gives(True, in_spans, 1, ((0, 1),), 77)

    def test_several_spans_and_none(self):
        for time in range(40):
            self.gives(time % 10 in (0, 2, 3, 4, 6), in_spans, 10, ((2, 4), (6, 7), (0, 1), (3, 5)), time)
            self.gives(False, in_spans, 10, (), time)

    def test_late_times(self):
        self.gives(True, in_spans, 2000, ((1999, 2000),), 10 ** 6 * 2000 - 1)
        self.gives(False, in_spans, 2000, ((1999, 2000),), 10 ** 6 * 2000)


class LayerTest(WatchTest):

    def test_before_the_start(self):
        for time in (0, 1, 9):
            self.gives(None, on_layer, 10, TURNS, time)
        self.gives("ann", on_layer, 10, TURNS, 10)
        self.gives(None, on_layer, 10, (("ann",), 3, 5, ()), 2)
        self.gives("ann", on_layer, 10, (("ann",), 3, 5, ()), 3)

    def test_turns(self):
        expected = [name for name in ("ann", "bob", "ann", "cy") * 3 for _ in range(3)]
        for at, person in enumerate(expected):
            self.gives(person, on_layer, 7, TURNS, 10 + at)

    def test_one_place(self):
        for time in (0, 1, 99, 10 ** 6):
            self.gives("ann", on_layer, 10, ALWAYS, time)

    def test_spans_hide_the_member_and_the_turns_go_on(self):
        for time in range(60):
            member = None
            if time >= 4 and (2 <= time % 10 < 5 or 8 <= time % 10):
                member = "dan" if (time - 4) // 7 % 2 == 0 else "eve"
            self.gives(member, on_layer, 10, DAYS, time)
        self.gives("dan", on_layer, 10, DAYS, 4)
        self.gives(None, on_layer, 10, DAYS, 3)
        self.gives(None, on_layer, 10, DAYS, 5)
        self.gives("eve", on_layer, 10, DAYS, 12)


class OnCallTest(WatchTest):

    def test_nobody_without_anything(self):
        for time in (0, 5, 10 ** 6):
            self.gives(None, on_call, 10, schedule(), time)

    def test_last_layer_that_has_somebody(self):
        made = schedule(ALWAYS, TURNS, DAYS)
        for time in range(60):
            members = [on_layer(10, layer, time) for layer in made[1]]
            self.gives([member for member in members if member is not None][-1], on_call, 10, made, time)
        self.gives("ann", on_call, 10, made, 3)
        self.gives("dan", on_call, 10, made, 4)
        self.gives("ann", on_call, 10, made, 5)
        self.gives("bob", on_call, 10, made, 15)
        self.gives(None, on_call, 10, schedule(DAYS), 15)

    def test_order_of_layers(self):
        bob = (("bob",), 5, 1, ())
        self.gives("bob", on_call, 10, schedule(ALWAYS, bob), 5)
        self.gives("ann", on_call, 10, schedule(ALWAYS, bob), 4)
        self.gives("ann", on_call, 10, schedule(bob, ALWAYS), 5)

    def test_standins_at_their_first_and_last_time(self):
        made = schedule(ALWAYS, standins=((3, 6, "bob"),))
        for time, person in ((2, "ann"), (3, "bob"), (5, "bob"), (6, "ann")):
            self.gives(person, on_call, 10, made, time)
        self.gives("bob", on_call, 10, schedule(standins=((3, 6, "bob"),)), 3)
        self.gives(None, on_call, 10, schedule(standins=((3, 6, "bob"),)), 6)

    def test_last_of_several_standins(self):
        made = schedule(ALWAYS, standins=((3, 9, "bob"), (2, 5, "cy"), (4, 8, "dan"), (0, 1, "ann")))
        self.assertEqual([on_call(10, made, time) for time in range(10)],
                         ["ann", "ann", "cy", "cy", "dan", "dan", "dan", "dan", "bob", "ann"])


class BreakTest(WatchTest):

    def breaks(self, week, made, last):
        """Return the breaks that are told one after the other, below a last time."""
        found = []
        at = next_break(week, made, -1)
        while at is not None and at < last:
            found.append(at)
            at = next_break(week, made, at)
        return found

    def test_standins(self):
        made = schedule(standins=((3, 6, "bob"), (5, 9, "bob")))
        for time, at in ((0, 3), (2, 3), (3, 5), (4, 5), (5, 6), (6, 9), (8, 9), (9, None), (1000, None)):
            self.gives(at, next_break, 10, made, time)

    def test_start_of_a_layer(self):
        for time, at in ((0, 7), (6, 7), (7, None)):
            self.gives(at, next_break, 10, schedule((("ann",), 7, 2, ())), time)
        self.gives(None, next_break, 10, schedule(ALWAYS), 0)

    def test_turns(self):
        for time, at in ((0, 10), (9, 10), (10, 13), (12, 13), (13, 16), (10 ** 6, 10 ** 6 + 3)):
            self.gives(at, next_break, 10, schedule(TURNS), time)
        self.gives(9, next_break, 10, schedule((("ann", "ann"), 4, 5, ())), 4)

    def test_spans(self):
        made = schedule((("ann",), 4, 1, ((2, 5), (8, 10))))
        self.assertEqual(self.breaks(10, made, 33), [4, 5, 8, 10, 12, 15, 18, 20, 22, 25, 28, 30, 32])
        self.assertEqual(self.breaks(10, schedule((("ann",), 0, 1, ((0, 10),))), 35), [0, 10, 20, 30])
        self.assertEqual(self.breaks(1, schedule((("ann",), 2, 1, ((0, 1),))), 6), [2, 3, 4, 5])

    def test_least_of_all(self):
        made = schedule(TURNS, DAYS, standins=((6, 17, "bob"),))
        self.assertEqual(self.breaks(10, made, 27), [4, 5, 6, 8, 10, 11, 12, 13, 15, 16, 17, 18, 19, 20, 22, 25])

    def test_none(self):
        self.gives(None, next_break, 10, schedule(), 0)
        self.gives(None, next_break, 10, schedule(ALWAYS, standins=((3, 6, "bob"),)), 6)

    def test_drawn_schedules(self):
        """The breaks are those of point 57, one by one, and between two of them nobody else comes on call."""
        chance = random.Random(57)
        for _ in range(300):
            week = chance.choice((1, 2, 5, 9))
            made = drawn_schedule(chance, "all", week)
            expected = [time for time in range(60) if is_break(week, made, time)]
            self.assertEqual(self.breaks(week, made, 60), expected, (week, made))
            persons = [on_call(week, made, time) for time in range(60)]
            for time in range(1, 60):
                if time not in expected:
                    self.assertEqual(persons[time], persons[time - 1], (week, made, time))


def is_break(week, made, time):
    """Tell whether a time is a break, by point 57 word for word; a start at 0 is one, too."""
    _, layers, standins = made
    if any(time in (first, last) for first, last, _ in standins):
        return True
    for members, start, shift, spans in layers:
        if time == start:
            return True
        if time > start and len(members) > 1 and (time - start) % shift == 0:
            return True
        edges = [edge % week for span in spans for edge in span]
        if time > start and time % week in edges:
            return True
    return False


class PeriodTest(WatchTest):

    def test_settled(self):
        self.gives(0, settled, schedule())
        self.gives(0, settled, schedule(ALWAYS))
        self.gives(10, settled, schedule(ALWAYS, TURNS, DAYS))
        self.gives(17, settled, schedule(ALWAYS, TURNS, standins=((6, 17, "bob"), (3, 4, "bob"))))
        self.gives(10, settled, schedule(TURNS, standins=((6, 7, "bob"),)))
        self.gives(10000, settled, schedule((("ann",), 10000, 1, ())))

    def test_period(self):
        self.gives(1, period, 10, schedule())
        self.gives(1, period, 10, schedule(standins=((3, 9, "bob"),)))
        self.gives(1, period, 10, schedule((("ann",), 7, 9, ())))
        self.gives(12, period, 10, schedule(TURNS))
        self.gives(10, period, 10, schedule((("ann",), 7, 9, ((0, 10),))))
        self.gives(70, period, 10, schedule(DAYS))
        self.gives(420, period, 10, schedule(TURNS, ALWAYS, DAYS))
        self.gives(18, period, 10, schedule((("ann", "ann"), 0, 9, ())))

    def test_great_periods(self):
        self.gives(10000, period, 10, schedule((("ann",) * 10, 0, 1000, ())))
        self.gives(10000 * 1999, period, 1999, schedule((("ann",) * 10, 0, 1000, ((0, 1),))))
        made = schedule(*[(("ann", "bob"), 0, shift, ()) for shift in (997, 991, 983)])
        self.gives(2 * 997 * 991 * 983, period, 10, made)

    def test_drawn_schedules_repeat(self):
        chance = random.Random(58)
        for _ in range(200):
            week = chance.choice((1, 2, 5, 9))
            made = drawn_schedule(chance, "all", week)
            begun, many = settled(made), period(week, made)
            lengths = [shift * len(members) for members, _, shift, _ in made[1] if len(members) > 1]
            lengths += [week for layer in made[1] if layer[3]]
            self.assertEqual(many, math.lcm(*lengths))
            for time in range(begun, begun + 100):
                self.assertEqual(on_call(week, made, time), on_call(week, made, time + many))


class StretchesTest(WatchTest):

    def test_empty_ranges(self):
        for made in (schedule(), schedule(ALWAYS), schedule(TURNS, DAYS)):
            for first, last in ((5, 5), (5, 4), (5, 0), (0, 0)):
                self.gives([], stretches, 10, made, first, last)
                self.gives(([], 0), duties, 10, made, first, last)

    def test_within_one_stretch(self):
        made = schedule(ALWAYS, standins=((3, 9, "bob"),))
        self.gives([(4, 8, "bob")], stretches, 10, made, 4, 8)
        self.gives([(3, 9, "bob")], stretches, 10, made, 3, 9)
        self.gives([(8, 9, "bob")], stretches, 10, made, 8, 9)
        self.gives([(50, 90, "ann")], stretches, 10, made, 50, 90)
        self.gives([(50, 90, None)], stretches, 10, schedule(), 50, 90)

    def test_breaks_at_which_nothing_changes(self):
        made = schedule((("ann", "ann"), 0, 2, ()), standins=((3, 9, "ann"),))
        self.gives([(0, 30, "ann")], stretches, 10, made, 0, 30)
        self.gives([(0, 25, "ann")], stretches, 10, schedule((("ann",), 0, 2, ((0, 10),))), 0, 25)

    def test_several_weeks(self):
        made = schedule((("ann", "bob"), 0, 10, ((2, 5), (8, 10))))
        self.gives([(0, 2, None), (2, 5, "ann"), (5, 8, None), (8, 10, "ann"), (10, 12, None), (12, 15, "bob"), (15, 18, None),
                    (18, 20, "bob"), (20, 22, None), (22, 24, "ann")], stretches, 10, made, 0, 24)
        self.gives(([("ann", 7), ("bob", 5)], 12), duties, 10, made, 0, 24)

    def test_order_of_persons(self):
        made = schedule((("cy", "ann", "cy", "bob"), 3, 2, ()))
        self.gives(([("cy", 6), ("ann", 3), ("bob", 2)], 3), duties, 10, made, 0, 14)
        self.gives(([("bob", 2), ("cy", 3), ("ann", 2)], 0), duties, 10, made, 9, 16)
        self.gives(([], 4), duties, 10, schedule(), 1, 5)

    def test_lists_are_new(self):
        made = schedule(ALWAYS)
        stretches(10, made, 0, 5).clear()
        duties(10, made, 0, 5)[0].clear()
        self.gives([(0, 5, "ann")], stretches, 10, made, 0, 5)
        self.gives(([("ann", 5)], 0), duties, 10, made, 0, 5)

    def test_drawn_schedules(self):
        chance = random.Random(59)
        for _ in range(300):
            week = chance.choice((1, 2, 5, 9))
            made = drawn_schedule(chance, "all", week)
            first = chance.randint(0, 20)
            last = first + chance.randint(0, 30)
            persons = [on_call(week, made, time) for time in range(first, last)]
            found = stretches(week, made, first, last)
            self.assertEqual([person for begun, ended, person in found for _ in range(begun, ended)], persons)
            self.assertEqual([row[0] for row in found] + [last], [first] + [row[1] for row in found])
            self.assertTrue(all(one[2] != other[2] for one, other in zip(found, found[1:])))
            order = list(dict.fromkeys(person for person in persons if person is not None))
            counts = [(person, persons.count(person)) for person in order]
            self.gives((counts, persons.count(None)), duties, week, made, first, last)
            self.assertEqual(sum(count for _, count in counts) + persons.count(None), last - first)


if __name__ == "__main__":
    unittest.main()
