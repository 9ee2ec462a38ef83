"""Points 85 and 87: rehearsals, and what a pager makes of them and of other histories."""

import random
import unittest

from tests.drawn import ALERTS, PERSONS, drawn_down, drawn_setup, drawn_up, one_person
from tests.support import WatchTest
from watchfloor.errors import NotReached, TooFewChannels
from watchfloor.gaps import gap
from watchfloor.pager import Pager
from watchfloor.paging import is_held
from watchfloor.scripts import rehearsal

RESERVED = "z" * 20
ALERT = (("job", "a"), ("zone", "b"))


def helper(value):
    return ALERT + ((RESERVED, value),)


ZERO, ONE, FIRST, BEFORE = helper("0"), helper("1"), helper("a"), helper("b")


def waiting(wait, **others):
    """Return a setup whose only route has a wait."""
    return one_person(routes=[(None, (), (("job",), wait, 5, 20, (), "page"))], **others)


class HelpersTest(WatchTest):

    def firing(self, wait, limit, script):
        """Return what fires at each tick of a rehearsal."""
        return [row[0] for row in rehearsal(waiting(wait), ALERT, limit, script)]

    def test_alert_alone(self):
        self.assertEqual(self.firing(2, 3, (2, None, ())), [[], [], [ALERT], [ALERT], [ALERT], [ALERT]])
        self.assertEqual(self.firing(2, 0, (0, None, ())), [[ALERT]])

    def test_last_page_before(self):
        firing = self.firing(2, 2, (6, 4, ()))
        self.assertEqual(firing, [[], [], [BEFORE], [BEFORE], [BEFORE], [BEFORE], [ALERT], [ALERT], [ALERT]])
        self.assertEqual(self.firing(5, 0, (3, 2, ())), [[BEFORE], [BEFORE], [BEFORE], [ALERT]])
        self.assertEqual(self.firing(0, 0, (3, 2, (3,))), [[], [], [BEFORE], [ALERT]])

    def test_first_page_that_is_early(self):
        self.assertEqual(self.firing(3, 4, (2, None, (4,))),
                         [[], [FIRST], [ALERT, FIRST], [ALERT, FIRST], [ALERT, FIRST], [ALERT], [ALERT]])
        self.assertEqual(self.firing(4, 3, (0, None, (2,))), [[ALERT, FIRST]] * 3 + [[ALERT]])
        self.assertEqual(self.firing(2, 0, (2, None, (2,))), [[FIRST], [FIRST], [ALERT, FIRST]])

    def test_first_page_that_is_not_early(self):
        self.assertEqual(self.firing(3, 4, (2, None, (5,))), [[], []] + [[ALERT]] * 5)
        self.assertEqual(self.firing(0, 1, (1, None, (1,))), [[], [ALERT], [ALERT]])
        self.assertNotIn(FIRST, sum(self.firing(3, 4, (2, 1, (4,))), []))

    def test_pages_behind_the_first_one(self):
        firing = self.firing(0, 9, (1, None, (1, 3, 4, 7, 10)))
        self.assertEqual(firing, [[], [ALERT], [ALERT], [ALERT, ONE], [ALERT, ZERO], [ALERT], [ALERT], [ALERT, ONE], [ALERT],
                                  [ALERT], [ALERT, ZERO]])

    def test_order(self):
        self.assertEqual(self.firing(9, 3, (0, None, (1, 2)))[:2], [[ALERT, FIRST], [ALERT, FIRST]])
        self.assertEqual([row[:1] for row in self.firing(9, 3, (0, None, (1, 2)))], [[ALERT]] * 4)
        self.assertEqual(self.firing(9, 3, (0, None, (3, 3)))[3], [ALERT, ONE, FIRST])

    def test_labels_of_helpers(self):
        made = waiting(1)
        found = rehearsal(made, (), 1, (1, 0, (1,)))
        self.assertEqual(found[0][0], [((RESERVED, "b"),)])
        self.assertEqual(found[1][0], [()])


class TurnsTest(WatchTest):

    def test_workers(self):
        made = waiting(1, replicas=3, pause=2)
        found = [row[1] for row in rehearsal(made, ALERT, 5, (3, 1, (4, 7)))]
        self.assertEqual(found, [[2], [0], [2], [2], [0], [2], [2], [0], [2]])
        found = [row[1] for row in rehearsal(made, ALERT, 2, (1, None, (2,)))]
        self.assertEqual(found, [[2], [2], [0], [2]])
        self.assertEqual([row[1] for row in rehearsal(waiting(1), ALERT, 1, (1, 0, ()))], [[0], [0], [0]])

    def test_channels(self):
        people = [("dan", 3), ("ann", 0), ("bob", 1), ("cy", 2)]
        made = waiting(0, people=people, down=2)
        self.assertEqual([row[2] for row in rehearsal(made, ALERT, 1, (1, None, (1,)))], [[("dan", 2), ("bob", 1), ("cy", 2)]] * 3)
        self.assertEqual([row[2] for row in rehearsal(waiting(0, people=people), ALERT, 0, (1, None, ()))], [[], []])

    def test_kinds(self):
        made = waiting(0, down=1)
        before = repr(vars(made))
        found = rehearsal(made, ALERT, 1, (1, 0, (1,)))
        self.assertIs(type(found), list)
        for row in found:
            self.assertIs(type(row), tuple)
            self.assertEqual([type(part) for part in row], [list, list, list])
            self.assertEqual([type(pair) for pair in row[2]], [tuple])
        for part in found[0]:
            part.clear()
        self.assertEqual(found[1:], rehearsal(made, ALERT, 1, (1, 0, (1,)))[1:])
        self.assertEqual(repr(vars(made)), before)

    def test_route_of_the_alert(self):
        routes = [(None, (), ((), 0, 5, 20, (), "page")), (0, (("job", ("a",), True),), ((), 4, 5, 20, (), "page"))]
        found = rehearsal(one_person(routes=routes), ALERT, 0, (6, 5, ()))
        self.assertEqual([row[0] for row in found], [[], [BEFORE], [BEFORE], [BEFORE], [BEFORE], [BEFORE], [ALERT]])


class RealTest(WatchTest):

    def test_gaps_are_real(self):
        """In the rehearsal of a gap nobody is reached about the alert, which is never held back, and it is paged as told."""
        chance = random.Random(87)
        pages = 0
        for _ in range(800):
            made, labels = drawn_setup(chance), chance.choice(ALERTS)
            start, limit = chance.randint(0, 25), chance.randint(0, 20)
            script = gap(made, labels, start, limit)
            if script is None:
                continue
            pager = Pager(made)
            paged = []
            for time, (firing, up, down) in enumerate(rehearsal(made, labels, limit, script)):
                self.assertEqual(labels in firing, time >= start)
                before = pager.reached()
                found = pager.tick(firing, up, down)[0]
                self.assertNotIn((labels, start), pager.reached())
                # Before it fires, the helper of the page before could hold it back.
                self.assertFalse(time >= start and is_held(made.holdbacks, pager.runs(), before, labels))
                self.assertNotIn(labels, pager.held())
                if any(run[0] == labels for page in found for run in page[3]):
                    paged.append(time)
                if time == script[1]:
                    self.assertTrue(found)
            self.assertEqual(time, start + limit)
            self.assertEqual(tuple(paged), script[2])
            pages += len(paged)
        self.assertGreater(pages, 500)


class MissedTest(WatchTest):

    def test_nothing_is_missed(self):
        """Where there is no gap, somebody is reached by the end, or the alert is held back by one that was told."""
        chance = random.Random(88)
        seen = {"reached": 0, "held": 0}
        for _ in range(1500):
            made, labels = drawn_setup(chance, down=chance.choice((0, 0, 1))), chance.choice(ALERTS)
            start, limit = chance.randint(0, 25), chance.randint(0, 20)
            if gap(made, labels, start, limit) is None:
                for _ in range(2):
                    reached, held = self.history(chance, made, labels, start, limit)
                    self.assertTrue(reached or held, (vars(made), labels, start, limit))
                    seen["reached"] += reached
                    seen["held"] += held
        self.assertGreater(seen["reached"], 800)
        self.assertGreater(seen["held"], 20)

    def history(self, chance, made, labels, start, limit):
        """Run a history that is drawn; tell whether somebody is reached about the alert, and whether it is held back."""
        pager = Pager(made)
        helpers = [tuple(sorted(labels + ((RESERVED, value),))) for value in "ab"]
        on = {other: False for other in chance.sample(ALERTS, chance.randint(0, 4)) + helpers if other != labels}
        rate = chance.choice((0.02, 0.1, 0.5))
        held = False
        for time in range(start + limit + 1):
            for other in on:
                on[other] = on[other] != (chance.random() < rate)
            firing = [other for other in on if on[other]]
            if time >= start or (time < start - 1 and chance.random() < 0.2):
                firing.append(labels)
            before = pager.reached()
            pager.tick(firing, drawn_up(chance, made), drawn_down(chance, made))
            held = held or (time >= start and is_held(made.holdbacks, pager.runs(), before, labels))
            if (labels, start) in pager.reached():
                return True, held
            self.disturb(chance, pager)
        return False, held

    def disturb(self, chance, pager):
        """Acknowledge plans, let persons stand in, and silence what has another label."""
        now = pager.time()
        for plan in pager.plans():
            try:
                pager.acknowledge(plan[0], chance.choice(PERSONS))
            except NotReached:
                pass
        if chance.random() < 0.1:
            try:
                pager.stand_in(chance.choice(("first", "second")), now, now + chance.randint(1, 5), chance.choice(PERSONS))
            except TooFewChannels:
                pass
        if chance.random() < 0.1:
            pager.silence(((RESERVED, ("",), False),), now, now + 3)


if __name__ == "__main__":
    unittest.main()
