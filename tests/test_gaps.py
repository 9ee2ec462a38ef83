"""Points 83, 84 and 86: what can fail from a time on, scripts and limits."""

import random
import unittest

from tests.drawn import ALERTS, drawn_setup, one_person
from tests.support import WatchTest
from watchfloor.forcing import can_begin, can_fail, can_follow, can_precede, is_forced
from watchfloor.gaps import failing, gap, gap_between, least_limit
from watchfloor.routes import settings_of

A, B = (("job", "a"),), (("job", "b"),)
WINDOWS = [("noon", ((3, 5),)), ("night", ((8, 10), (0, 1))), ("all", ((0, 10),)), ("day", ((5, 10),))]


def settings(wait=0, interval=3, again=5, mutes=()):
    return (), wait, interval, again, mutes, "page"


def turns(*levels, replicas=1, pause=0, **told):
    """Return a setup in which somebody who is sure is on call from 5 on and before 10 in each 10 times."""
    return one_person(
        people=[("ann", 1), ("bob", 2)], down=1, schedules=[("all", ((("ann", "bob"), 0, 5, ()),), ())], windows=WINDOWS,
        policies=[("page", levels or (("all", 0),))], routes=[(None, (), settings(**told))], replicas=replicas, pause=pause)


def nobody(**told):
    """Return a setup in which nobody is sure to be reached."""
    return one_person(down=2, windows=WINDOWS, routes=[(None, (), settings(**told))])


class FailingTest(WatchTest):

    def failing(self, made, first, end):
        return failing(made, made.routes[0][2], first, end)

    def test_next_page_that_is_chosen(self):
        made = turns(interval=5, again=8)
        self.assertEqual(self.failing(made, 0, 12), [
            (False, None), (False, None), (True, 10), (True, 10), (True, 10), (False, None), (False, None), (False, None),
            (False, None), (False, None), (True, None), (True, None), (True, None)])
        self.assertEqual(self.failing(turns(again=8), 0, 12)[:5], [(True, 3), (True, 4), (True, 10), (True, 10), (True, 10)])

    def test_no_page_that_is_forced(self):
        self.assertEqual(self.failing(turns(), 0, 4), [(True, None)] * 5)
        self.assertEqual(self.failing(turns(interval=5), 0, 5), [(False, None)] + [(True, None)] * 4 + [(False, None)])
        self.assertEqual(self.failing(turns(interval=5, replicas=2, pause=2), 0, 7),
                         [(False, None)] + [(True, None)] * 4 + [(False, None)] * 3)
        self.assertEqual(self.failing(turns(mutes=("noon", "all")), 4, 8), [(True, None)] + [(False, None)] * 4)

    def test_the_least_page_is_chosen(self):
        self.assertEqual(self.failing(nobody(), 0, 10),
                         [(True, 3), (True, 4), (True, 5), (True, 6), (True, 7), (True, 8)] + [(True, None)] * 5)
        self.assertEqual(self.failing(nobody(interval=5), 0, 6), [(True, 5), (True, 6)] + [(True, None)] * 5)

    def test_mutes(self):
        self.assertEqual(self.failing(nobody(mutes=("noon",)), 0, 8),
                         [(True, 5), (True, 5), (True, 5), (True, 6)] + [(True, None)] * 5)
        self.assertEqual(self.failing(nobody(again=3, mutes=("noon",)), 0, 5), [(True, 5), (True, 5), (True, 5)] + [(True, None)] * 3)

    def test_mute_that_lets_a_page_be_late(self):
        made = turns(again=3, mutes=("day",))
        self.assertEqual(self.failing(made, 0, 12),
                         [(True, 3), (True, 4), (True, 10), (True, 10), (True, 10)] + [(False, None)] * 5 + [(True, None)] * 3)

    def test_one_time_and_none(self):
        self.assertEqual(self.failing(turns(), 3, 3), [(True, None)])
        self.assertEqual(self.failing(turns(), 5, 5), [(False, None)])
        self.assertEqual(self.failing(turns(), 5, 4), [])

    def test_drawn_setups(self):
        chance = random.Random(83)
        for _ in range(200):
            made = drawn_setup(chance)
            first = chance.randint(0, 20)
            end = first + chance.randint(0, 25)
            self.gives(plain_failing(made, made.routes[0][2], first, end), failing, made, made.routes[0][2], first, end)


def plain_failing(made, told, first, end):
    """Return what `failing` returns, by points 79 and 82 to 84 word for word."""
    again = told[3]
    rows = {}
    for time in range(end, first - 1, -1):
        rows[time] = (can_fail(made, told, end, time), None)
        if rows[time][0] and is_forced(made, told, time + again, time + 1, end + 1):
            pages = [later for later in range(time + 1, end + 1) if can_follow(made, told, time, later) and rows[later][0]]
            rows[time] = (True, pages[0]) if pages else (False, None)
    return [rows[time] for time in range(first, end + 1)]


def plain_gap(made, labels, start, limit):
    """Return what `gap` returns, by points 80, 81 and 84 word for word."""
    told, end = settings_of(made.routes, labels), start + limit
    _, wait, interval, _, _, _ = told
    rows = plain_failing(made, told, start, end)
    for before in [None] + [time for time in range(start) if can_precede(made, told, start, time)]:
        due = start + wait if before is None else before + interval
        if not is_forced(made, told, due, start, end + 1):
            return start, before, ()
        pages = [time for time in range(start, end + 1) if can_begin(made, told, start, before, time) and rows[time - start][0]][:1]
        while pages and rows[pages[-1] - start][1] is not None:
            pages.append(rows[pages[-1] - start][1])
        if pages:
            return start, before, tuple(pages)
    return None


class GapTest(WatchTest):

    def test_without_a_page_before(self):
        made = turns(interval=1)
        for start, limit, script in (
            (0, 4, (0, None, (0,))), (0, 5, (0, None, (0, 1))), (4, 4, (4, None, (4,))), (4, 5, None), (3, 4, (3, None, (3,))),
            (3, 5, (3, None, (3, 4))), (3, 6, None), (5, 0, None), (9, 0, None), (10, 0, (10, None, (10,))),
        ):
            self.gives(script, gap, made, A, start, limit)

    def test_with_a_page_before(self):
        made = turns(wait=2, interval=4, again=8)
        self.gives((8, None, ()), gap, made, A, 8, 1)
        self.gives((8, None, (10,)), gap, made, A, 8, 2)
        self.gives((7, None, ()), gap, made, A, 7, 1)
        self.gives((7, 6, ()), gap, made, A, 7, 2)
        self.gives((7, 6, (10,)), gap, made, A, 7, 3)
        self.gives(None, gap, made, A, 6, 4)

    def test_without_pages(self):
        self.gives((0, None, ()), gap, turns(wait=3), A, 0, 2)
        self.gives((0, None, ()), gap, turns(replicas=3, pause=4), A, 0, 7)
        self.gives((5, None, ()), gap, turns(mutes=("all",)), A, 5, 200)
        self.gives((8, None, ()), gap, turns(mutes=("night",)), A, 8, 2)

    def test_several_pages(self):
        self.gives((0, None, (0, 3, 6, 9)), gap, nobody(), A, 0, 11)
        self.gives((0, None, (0, 3, 6, 9)), gap, nobody(), A, 0, 13)
        self.gives((0, None, (0, 3, 6, 9, 12)), gap, nobody(), A, 0, 14)
        self.gives((2, None, (2, 5, 8)), gap, nobody(mutes=("noon",)), A, 2, 12)
        self.gives((2, None, (2, 5, 8, 11)), gap, nobody(mutes=("noon",)), A, 2, 13)

    def test_none(self):
        for limit, script in ((0, (7, 3, ())), (3, (7, 6, ())), (4, None), (5, None), (200, None)):
            self.gives(script, gap, one_person(), A, 7, limit)
        self.gives(None, gap, turns(), A, 0, 200)

    def test_route_of_the_alert(self):
        made = one_person(down=1, people=[("ann", 2), ("bob", 1)],
                          schedules=[("all", ((("ann",), 0, 1, ()),), ()), ("other", ((("bob",), 0, 1, ()),), ())],
                          policies=[("page", (("all", 0),)), ("call", (("other", 0),))],
                          routes=[(None, (), settings()), (0, (("job", ("b",), True),), settings()[:5] + ("call",))])
        self.gives(None, gap, made, A, 0, 9)
        self.gives((0, None, (0, 3, 6)), gap, made, B, 0, 9)

    def test_drawn_setups(self):
        chance = random.Random(84)
        seen = {"none": 0, "before": 0, "without": 0, "several": 0}
        for _ in range(1500):
            made, labels = drawn_setup(chance), chance.choice(ALERTS)
            start, limit = chance.randint(0, 25), chance.randint(0, 20)
            script = plain_gap(made, labels, start, limit)
            self.gives(script, gap, made, labels, start, limit)
            seen["none"] += script is None
            seen["before"] += script is not None and script[1] is not None
            seen["without"] += script is not None and not script[2]
            seen["several"] += script is not None and len(script[2]) > 1
        self.assertGreater(min(seen.values()), 20, seen)

    def test_greater_limits(self):
        """Point 86: without a gap for a limit, there is none for greater ones."""
        chance = random.Random(86)
        for _ in range(300):
            made, labels, start = drawn_setup(chance), chance.choice(ALERTS), chance.randint(0, 25)
            found = [gap(made, labels, start, limit) is None for limit in range(30)]
            self.assertEqual(found, sorted(found))


class BetweenTest(WatchTest):

    def test_first_time_that_has_a_gap(self):
        made = turns()
        self.gives((8, 7, (10,)), gap_between, made, A, 5, 20, 2)
        self.gives((8, 7, (10,)), gap_between, made, A, 5, 9, 2)
        self.gives((3, None, (3,)), gap_between, made, A, 3, 20, 2)

    def test_none(self):
        self.gives(None, gap_between, turns(), A, 5, 8, 2)
        self.gives(None, gap_between, turns(), A, 5, 5, 2)
        self.gives(None, gap_between, turns(), A, 5, 3, 2)
        self.gives(None, gap_between, one_person(), A, 0, 200, 4)

    def test_least_limit(self):
        made = turns()
        self.gives(2, least_limit, made, A, 5, 8, 9)
        self.gives(11, least_limit, made, A, 8, 9, 20)
        self.gives(11, least_limit, made, A, 0, 200, 200)
        self.gives(11, least_limit, made, A, 0, 200, 11)
        self.gives(None, least_limit, made, A, 0, 200, 10)
        self.gives(0, least_limit, made, A, 5, 5, 0)
        self.gives(0, least_limit, one_person(), A, 0, 1, 0)
        self.gives(4, least_limit, one_person(), A, 0, 200, 200)
        self.gives(None, least_limit, nobody(), A, 0, 1, 200)

    def test_drawn_setups(self):
        chance = random.Random(85)
        limits = []
        for _ in range(300):
            made, labels, first = drawn_setup(chance), chance.choice(ALERTS), chance.randint(0, 25)
            last, limit = first + chance.randint(0, 6), chance.randint(0, 12)
            scripts = [plain_gap(made, labels, start, limit) for start in range(first, last)]
            scripts = [script for script in scripts if script is not None]
            self.gives(scripts[0] if scripts else None, gap_between, made, labels, first, last, limit)
            free = [most for most in range(limit + 1)
                    if all(plain_gap(made, labels, start, most) is None for start in range(first, last))]
            self.gives(min(free, default=None), least_limit, made, labels, first, last, limit)
            limits.append(min(free, default=None))
        self.assertGreater(len(set(limits)), 8)

    def test_as_many_starts_and_as_great_limits_as_there_can_be(self):
        windows = [("days", tuple((200 * day, 200 * day + 70) for day in range(8)))]
        made = one_person(2000, windows=windows, replicas=5, pause=10, routes=[(None, (), ((), 30, 5, 1000, ("days",), "page"))])
        self.gives(140, least_limit, made, A, 9900, 10100, 200)
        self.gives(None, gap_between, made, A, 9900, 10100, 140)
        self.gives((9930, None, ()), gap_between, made, A, 9900, 10100, 139)


if __name__ == "__main__":
    unittest.main()
