"""Points 66 to 76, with points 49, 56 and 62: the pager."""

import random
import unittest

from tests.drawn import ALERTS, PERSONS, drawn_down, drawn_matchers, drawn_setup, drawn_up, one_person
from tests.plain_pager import PlainPager
from tests.support import WatchTest
from watchfloor.errors import InvalidArgument, NotReached, TooFewChannels, TooLate
from watchfloor.pager import Pager

A, B, C = (("job", "a"),), (("job", "b"),), (("job", "c"),)


def told(pager):
    """Return all that a pager tells of its state."""
    return [pager.time(), pager.runs(), pager.ledger(), pager.plans(), pager.reached(), pager.held()]


def route(group=(), wait=0, interval=5, again=20, mutes=(), policy="page"):
    return None, (), (group, wait, interval, again, mutes, policy)


def under(parent, matchers, **settings):
    return (parent, matchers) + route(**settings)[2:]


class PagerTest(WatchTest):

    def ticked(self, pager, firing, pages, rings=None, up=(0,), down=()):
        """Tick, and check the pages, by their routes, workers and alerts, and the rings if they are given."""
        up, down = list(up), list(down)
        before = repr((firing, up, down))
        found = pager.tick(firing, up, down)
        self.assertEqual(repr((firing, up, down)), before)
        self.assertIs(type(found), tuple)
        self.assertEqual([type(part) for part in found], [list, list])
        self.assertEqual([(number, worker, [run[0] for run in runs]) for number, _, worker, runs in found[0]], pages)
        if rings is not None:
            self.assertEqual(found[1], rings)
        return found

    def idle(self, pager, firing, many, up=(0,)):
        """Tick several times without a page."""
        for _ in range(many):
            self.ticked(pager, firing, [], up=up)


class GroupsTest(PagerTest):

    def test_new_pager(self):
        self.assertEqual(told(Pager(one_person())), [0, [], [], [], [], []])

    def test_runs(self):
        pager = Pager(one_person())
        for firing, runs in (([B], [(B, 0)]), ([A, B], [(A, 1), (B, 0)]), ([A], [(A, 1)]), ([], []), ([B, A], [(A, 4), (B, 4)])):
            pager.tick(firing, [0], [])
            self.gives(runs, pager.runs)

    def test_several_groups_and_their_order(self):
        routes = [route(group=("zone",)), under(0, (("job", ("b",), True),), group=("job",))]
        alerts = [(("job", "a"), ("zone", "y")), (("job", "b"), ("zone", "x")), (("job", "c"), ("zone", "x")), (("job", "d"),),
                  (("job", "e"), ("zone", "x")), (("job", "b"),)]
        pager = Pager(one_person(routes=routes))
        found = pager.tick(alerts, [0], [])
        self.assertEqual(found[0], [
            (0, (("zone", "y"),), 0, ((alerts[0], 0),)),
            (1, (("job", "b"),), 0, ((alerts[5], 0), (alerts[1], 0))),
            (0, (("zone", "x"),), 0, ((alerts[2], 0), (alerts[4], 0))),
            (0, (), 0, ((alerts[3], 0),)),
        ])
        self.assertEqual(found[1], [(number, "ann", True) for number in range(4)])
        self.assertEqual([plan[0] for plan in pager.plans()], [])
        self.assertEqual(pager.ledger(), [
            (0, (), 0, ((alerts[3], 0),)),
            (0, (("zone", "x"),), 0, ((alerts[2], 0), (alerts[4], 0))),
            (0, (("zone", "y"),), 0, ((alerts[0], 0),)),
            (1, (("job", "b"),), 0, ((alerts[5], 0), (alerts[1], 0))),
        ])

    def test_policy_of_the_route(self):
        made = one_person(
            people=[("ann", 1), ("bob", 1)], schedules=[("all", ((("ann",), 0, 1, ()),), ()), ("other", ((("bob",), 0, 1, ()),), ())],
            policies=[("page", (("all", 3),)), ("call", (("other", 0), ("all", 2)))],
            routes=[route(), under(0, (("job", ("b",), True),), policy="call")])
        pager = Pager(made)
        self.ticked(pager, [A, B], [(0, 0, [A]), (1, 0, [B])], [(1, "bob", True)])
        self.assertEqual(pager.plans(), [(0, "page", 0, ((A, 0),), False), (1, "call", 0, ((B, 0),), False)])
        self.ticked(pager, [A, B], [], [])
        self.ticked(pager, [A, B], [], [(1, "ann", True)])
        self.assertEqual(pager.plans(), [(0, "page", 0, ((A, 0),), False)])
        self.ticked(pager, [A, B], [], [(0, "ann", True)])
        self.assertEqual(pager.plans(), [])


class DueTest(PagerTest):

    def test_wait(self):
        pager = Pager(one_person(routes=[route(wait=3)]))
        self.idle(pager, [A], 3)
        self.ticked(pager, [A, B], [(0, 0, [A, B])])

    def test_wait_of_an_alert_that_ended_is_for_nothing(self):
        pager = Pager(one_person(routes=[route(wait=3)]))
        self.idle(pager, [A], 2)
        self.idle(pager, [B], 3)
        self.ticked(pager, [B], [(0, 0, [B])])

    def test_interval(self):
        pager = Pager(one_person(routes=[route()]))
        self.ticked(pager, [A], [(0, 0, [A])])
        self.idle(pager, [A], 1)
        self.idle(pager, [A, B], 3)
        self.ticked(pager, [A, B], [(0, 0, [A, B])])
        self.idle(pager, [A], 5)
        self.ticked(pager, [A, C], [(0, 0, [A, C])])

    def test_interval_for_an_alert_that_begins_anew(self):
        pager = Pager(one_person(routes=[route()]))
        self.ticked(pager, [A, B], [(0, 0, [A, B])])
        self.idle(pager, [B], 1)
        self.idle(pager, [A, B], 3)
        self.ticked(pager, [A, B], [(0, 0, [A, B])])
        self.assertEqual(pager.ledger(), [(0, (), 5, ((A, 2), (B, 0)))])

    def test_repetition(self):
        pager = Pager(one_person(routes=[route(again=7)]))
        self.ticked(pager, [A, B], [(0, 0, [A, B])])
        self.idle(pager, [A, B], 4)
        self.idle(pager, [B], 2)
        self.ticked(pager, [B], [(0, 0, [B])])
        self.idle(pager, [B], 6)
        self.ticked(pager, [B], [(0, 0, [B])])

    def test_entry_is_dropped_when_the_group_has_no_run(self):
        pager = Pager(one_person(routes=[route(wait=1, interval=9, again=9)]))
        self.idle(pager, [A], 1)
        self.ticked(pager, [A], [(0, 0, [A])])
        self.assertEqual(pager.ledger(), [(0, (), 1, ((A, 0),))])
        self.idle(pager, [], 1)
        self.assertEqual(pager.ledger(), [])
        self.idle(pager, [A], 1)
        self.ticked(pager, [A], [(0, 0, [A])])

    def test_entry_stays_as_long_as_the_group_has_some_run(self):
        pager = Pager(one_person(routes=[route()]))
        self.ticked(pager, [A], [(0, 0, [A])])
        self.idle(pager, [B], 4)
        self.assertEqual(pager.ledger(), [(0, (), 0, ((A, 0),))])
        self.ticked(pager, [B], [(0, 0, [B])])

    def test_entry_stays_while_all_runs_are_silenced(self):
        pager = Pager(one_person(routes=[route(interval=4, again=4)]))
        self.ticked(pager, [A], [(0, 0, [A])])
        pager.silence((), 1, 6)
        self.idle(pager, [A], 5)
        self.assertEqual(pager.ledger(), [(0, (), 0, ((A, 0),))])
        self.ticked(pager, [A], [(0, 0, [A])])

    def test_mutes(self):
        windows = [("night", ((0, 3), (5, 6)))]
        pager = Pager(one_person(windows=windows, routes=[route(interval=1, again=1, mutes=("night",))]))
        self.idle(pager, [A], 3)
        self.ticked(pager, [A], [(0, 0, [A])])
        self.ticked(pager, [A], [(0, 0, [A])])
        self.idle(pager, [A], 1)
        self.ticked(pager, [A], [(0, 0, [A])])

    def test_plans_ring_while_the_route_is_muted(self):
        pager = Pager(one_person(windows=[("night", ((1, 10),))], routes=[route(mutes=("night",))], policies=[("page", (("all", 4),))]))
        self.ticked(pager, [A], [(0, 0, [A])], [])
        for time in range(1, 9):
            self.ticked(pager, [A], [], [(0, "ann", True)] if time == 4 else [])

    def test_workers_and_their_pauses(self):
        pager = Pager(one_person(replicas=3, pause=2, routes=[route(wait=1, again=10, interval=10)]))
        self.idle(pager, [A], 2, up=[1, 2])
        self.idle(pager, [A], 1, up=[1, 2])
        self.ticked(pager, [A], [(0, 1, [A])], up=[1, 2])
        self.idle(pager, [A], 9, up=[0, 1, 2])
        self.idle(pager, [A], 1, up=[2])
        self.idle(pager, [A], 3, up=[2])
        self.ticked(pager, [A], [(0, 2, [A])], up=[2])

    def test_worker_with_the_least_number(self):
        for up, worker in (([0, 1, 2], 0), ([1, 2], 1), ([0, 2], 0), ([2], 2)):
            pager = Pager(one_person(replicas=3))
            self.ticked(pager, [A], [(0, worker, [A])], up=up)


class SilenceTest(PagerTest):

    def test_first_and_last_time(self):
        pager = Pager(one_person(routes=[route(interval=1, again=1)]))
        self.gives(None, pager.silence, [("job", ("a",), True)], 1, 3)
        self.ticked(pager, [A], [(0, 0, [A])])
        self.idle(pager, [A], 1)
        self.ticked(pager, [A, B], [(0, 0, [B])])
        self.ticked(pager, [A, B], [(0, 0, [A, B])])

    def test_without_matchers(self):
        for matchers in ((), []):
            pager = Pager(one_person())
            pager.silence(matchers, 0, 2)
            self.idle(pager, [A, ()], 2)
            self.ticked(pager, [A, ()], [(0, 0, [(), A])])

    def test_wait_counts_from_the_pageable_runs(self):
        pager = Pager(one_person(routes=[route(wait=4)]))
        pager.silence((("job", ("a",), True),), 0, 5)
        self.idle(pager, [A], 2)
        self.idle(pager, [A, B], 3)
        self.ticked(pager, [A, B], [(0, 0, [A, B])])

    def test_silence_of_the_past(self):
        pager = Pager(one_person())
        self.idle(pager, [], 3)
        pager.silence((), 0, 3)
        self.ticked(pager, [A], [(0, 0, [A])])


class HeldTest(PagerTest):

    HOLDBACKS = [((("job", ("a",), True),), (("job", ("b", "c"), True),), ())]
    ROUTES = [route(interval=1, again=1), under(0, (("job", ("a",), True),), policy="late")]

    def pager(self, *levels):
        return Pager(one_person(routes=self.ROUTES, holdbacks=self.HOLDBACKS, people=[("ann", 1)], down=1,
                                policies=[("page", (("all", 0),)), ("late", levels)]))

    def test_held_from_the_tick_after_somebody_was_reached(self):
        pager = self.pager(("all", 2))
        self.ticked(pager, [A, B], [(1, 0, [A]), (0, 0, [B])])
        self.gives([], pager.held)
        self.ticked(pager, [A, B], [(0, 0, [B])])
        self.gives([], pager.held)
        self.ticked(pager, [A, B], [(0, 0, [B])], [(0, "ann", True), (3, "ann", True)])
        self.gives([B], pager.held)
        self.idle(pager, [A, B, C], 1)
        self.gives([B, C], pager.held)
        self.ticked(pager, [B, C], [(0, 0, [B, C])])
        self.gives([], pager.held)

    def test_not_held_if_nobody_was_reached(self):
        pager = self.pager(("all", 1))
        self.ticked(pager, [A, B], [(1, 0, [A]), (0, 0, [B])], down=[("ann", 1)])
        for _ in range(3):
            self.gives([], pager.held)
            self.ticked(pager, [A, B], [(0, 0, [B])], down=[("ann", 1)])

    def test_run_that_begins_anew_holds_nothing_back(self):
        pager = self.pager(("all", 0))
        self.ticked(pager, [A, B], [(1, 0, [A]), (0, 0, [B])])
        self.gives([B], pager.held)
        self.ticked(pager, [B], [(0, 0, [B])])
        self.ticked(pager, [A, B], [(1, 0, [A]), (0, 0, [B])], down=[("ann", 1)])
        self.gives([], pager.held)
        self.ticked(pager, [A, B], [(0, 0, [B])])

    def test_ring_after_the_alert_has_ended(self):
        pager = self.pager(("all", 1))
        self.ticked(pager, [A], [(1, 0, [A])], [])
        self.ticked(pager, [B], [(0, 0, [B])], [(0, "ann", True), (1, "ann", True)])
        self.gives([(B, 1)], pager.reached)
        self.ticked(pager, [A, B], [(1, 0, [A]), (0, 0, [B])])
        self.gives([(B, 1)], pager.reached)


class RingTest(PagerTest):

    def test_levels_at_their_times(self):
        made = one_person(
            people=[("ann", 2), ("bob", 1)], down=2,
            schedules=[("all", ((("ann",), 0, 1, ()),), ()), ("turns", ((("ann", "bob"), 0, 2, ()),), ()), ("none", (), ())],
            policies=[("page", (("turns", 3), ("all", 0), ("none", 3), ("turns", 3), ("turns", 2)))])
        pager = Pager(made)
        self.ticked(pager, [A], [(0, 0, [A])], [(0, "ann", True)], down=[("ann", 1)])
        self.ticked(pager, [], [], [])
        self.ticked(pager, [], [], [(0, "bob", False)], down=[("bob", 1)])
        self.assertEqual(pager.plans(), [(0, "page", 0, ((A, 0),), False)])
        self.ticked(pager, [], [], [(0, "bob", True), (0, "bob", True)], down=[("ann", 2), ("bob", 0)])
        self.assertEqual(pager.plans(), [])
        self.idle(pager, [], 3)

    def test_channels_that_are_down(self):
        made = one_person(people=[("ann", 2), ("bob", 0)], down=5)
        for count, reached in ((0, True), (1, True), (2, False), (5, False)):
            self.ticked(Pager(made), [A], [(0, 0, [A])], [(0, "ann", reached)], down=[("ann", count)])
        self.ticked(Pager(made), [A], [(0, 0, [A])], [(0, "ann", True)], down=[("bob", 5)])

    def test_persons_without_channels(self):
        pager = Pager(one_person(people=[("ann", 0)]))
        self.ticked(pager, [A], [(0, 0, [A])], [(0, "ann", False)])
        self.gives([], pager.reached)
        self.refused(NotReached, {}, pager.acknowledge, 0, "ann")

    def test_reached_about_all_runs_of_the_page(self):
        pager = Pager(one_person(policies=[("page", (("all", 1),))]))
        self.ticked(pager, [A, B], [(0, 0, [A, B])], [])
        self.gives([], pager.reached)
        self.ticked(pager, [A, B, C], [], [(0, "ann", True)])
        self.gives([(A, 0), (B, 0)], pager.reached)
        self.ticked(pager, [B, C], [], [])
        self.gives([(B, 0)], pager.reached)
        self.ticked(pager, [A, B, C], [], [])
        self.gives([(B, 0)], pager.reached)

    def test_plans_that_are_forgotten(self):
        pager = Pager(one_person(policies=[("page", (("all", 2), ("all", 0)))]))
        plan = (0, "page", 0, ((A, 0),), False)
        for plans in ([plan], [plan], []):
            pager.tick([A], [0], [])
            self.gives(plans, pager.plans)

    def test_numbers_go_on(self):
        pager = Pager(one_person(routes=[route(group=("job",), interval=1, again=1)]))
        for time in range(3):
            self.ticked(pager, [A, B], [(0, 0, [A]), (0, 0, [B])], [(2 * time, "ann", True), (2 * time + 1, "ann", True)])


class AcknowledgeTest(PagerTest):

    def pager(self):
        made = one_person(people=[("ann", 2), ("bob", 2)], schedules=[("turns", ((("ann", "bob"), 0, 1, ()),), ())], down=2,
                          policies=[("page", (("turns", 0), ("turns", 1), ("turns", 3)))])
        return Pager(made)

    def test_stopped_plan_rings_nobody(self):
        pager = self.pager()
        self.ticked(pager, [A], [(0, 0, [A])], [(0, "ann", True)])
        self.gives(None, pager.acknowledge, 0, "ann")
        self.gives([(0, "page", 0, ((A, 0),), True)], pager.plans)
        for _ in range(2):
            self.ticked(pager, [A], [], [])
            self.gives([(0, "page", 0, ((A, 0),), True)], pager.plans)
        self.ticked(pager, [A], [], [])
        self.gives([], pager.plans)

    def test_by_somebody_who_was_not_reached(self):
        pager = self.pager()
        for plan, person in ((0, "ann"), (-1, "ann"), (0, "nobody")):
            self.refused(NotReached, {}, pager.acknowledge, plan, person)
        self.ticked(pager, [A], [(0, 0, [A])], [(0, "ann", False)], down=[("ann", 2)])
        state = told(pager)
        for plan, person in ((0, "ann"), (0, "bob"), (1, "ann"), (0, "")):
            self.refused(NotReached, {}, pager.acknowledge, plan, person)
        self.assertEqual(told(pager), state)
        self.ticked(pager, [A], [], [(0, "bob", True)])
        self.refused(NotReached, {}, pager.acknowledge, 0, "ann")
        self.gives(None, pager.acknowledge, 0, "bob")

    def test_forgotten_plan(self):
        pager = self.pager()
        for _ in range(5):
            pager.tick([A], [0], [])
        state = told(pager)
        self.gives([], pager.plans)
        for person in ("ann", "bob", "bob"):
            self.gives(None, pager.acknowledge, 0, person)
            self.assertEqual(told(pager), state)
        self.refused(NotReached, {}, pager.acknowledge, 1, "ann")

    def test_one_plan_alone_is_stopped(self):
        pager = Pager(one_person(routes=[route(group=("job",))], policies=[("page", (("all", 0), ("all", 1)))]))
        self.ticked(pager, [A, B], [(0, 0, [A]), (0, 0, [B])])
        pager.acknowledge(1, "ann")
        self.ticked(pager, [A, B], [], [(0, "ann", True)])

    def test_twice(self):
        pager = self.pager()
        pager.tick([A], [0], [])
        pager.acknowledge(0, "ann")
        state = told(pager)
        self.gives(None, pager.acknowledge, 0, "ann")
        self.assertEqual(told(pager), state)


class StandInTest(PagerTest):

    def pager(self):
        made = one_person(
            people=[("ann", 2), ("bob", 2), ("cy", 1)], down=1, routes=[route(interval=1, again=1)],
            schedules=[("all", ((("ann",), 0, 1, ()),), ((2, 4, "cy"),)), ("other", (), ())])
        return Pager(made)

    def test_first_and_last_time(self):
        pager = self.pager()
        self.gives(None, pager.stand_in, "all", 1, 3, "bob")
        for person in ("ann", "bob", "bob", "cy", "ann"):
            self.gives(person, pager.on_call, "all")
            self.gives(None, pager.on_call, "other")
            found = pager.tick([A], [0], [])
            self.assertEqual([ring[1] for ring in found[1]], [person])

    def test_behind_those_that_the_schedule_has(self):
        pager = self.pager()
        pager.stand_in("all", 0, 4, "bob")
        pager.stand_in("all", 1, 3, "ann")
        self.assertEqual([pager.tick([A], [0], [])[1][0][1] for _ in range(5)], ["bob", "ann", "ann", "bob", "ann"])

    def test_one_schedule_alone(self):
        pager = self.pager()
        pager.stand_in("other", 0, 9, "bob")
        self.gives("bob", pager.on_call, "other")
        self.gives("ann", pager.on_call, "all")

    def test_refusals_in_their_order(self):
        pager = self.pager()
        for first, last, person in ((0, 5, "bob"), (5, 5, "bob"), (5, 4, "nobody"), (0, 5, "cy")):
            self.refused(InvalidArgument, {"name": "schedule"}, pager.stand_in, "none", first, last, person)
            self.refused(InvalidArgument, {"name": "schedule"}, pager.stand_in, "", first, last, person)
        for person in ("bob", "nobody", "cy"):
            self.refused(InvalidArgument, {"name": "last"}, pager.stand_in, "all", 5, 5, person)
            self.refused(InvalidArgument, {"name": "last"}, pager.stand_in, "all", 5, 4, person)
        self.refused(InvalidArgument, {"name": "person"}, pager.stand_in, "all", 0, 5, "nobody")
        self.refused(TooFewChannels, {}, pager.stand_in, "all", 0, 5, "cy")
        self.gives("ann", pager.on_call, "all")
        self.refused(InvalidArgument, {"name": "schedule"}, pager.on_call, "none")

    def test_who_is_sure(self):
        for down, sure in ((0, True), (1, True), (2, False)):
            pager = Pager(one_person(down=down))
            if sure:
                pager.stand_in("all", 0, 1, "ann")
            else:
                self.refused(TooFewChannels, {}, pager.stand_in, "all", 0, 1, "ann")


class RefusalTest(PagerTest):

    def setUp(self):
        self.pager = Pager(one_person(people=[("ann", 2), ("bob", 0)], replicas=3, down=2,
                                      policies=[("page", (("all", 0), ("all", 2)))]))
        self.pager.tick([A], [0], [])
        self.state = told(self.pager)

    def refuses(self, name, firing, up, down):
        self.refused(InvalidArgument, {"name": name}, self.pager.tick, firing, up, down)
        self.assertEqual(told(self.pager), self.state)

    def test_firing_comes_first(self):
        for up in ([0], [], [3]):
            for down in ([], [("ann", 3)]):
                self.refuses("firing", [A, A], up, down)
                self.refuses("firing", [A, B, A], up, down)

    def test_up(self):
        for up in ([], [3], [0, 3], [-1], [-1, 0], [0, 0], [1, 0], [0, 2, 1], [0, 1, 2, 3], [2, 2]):
            for down in ([], [("ann", 3)]):
                self.refuses("up", [A], up, down)
        for up in ([0], [1], [2], [0, 2], [0, 1, 2]):
            self.pager.tick([A], up, [])

    def test_down(self):
        for down in ([("ann", 1), ("ann", 1)], [("ann", 1), ("bob", 0), ("ann", 0)], [("cy", 0)], [("ann", -1)], [("ann", 3)],
                     [("bob", 3)], [("ann", 0), ("", 1)]):
            self.refuses("down", [A], [0], down)
        for down in ([("ann", 0)], [("ann", 2)], [("bob", 2), ("ann", 1)]):
            self.pager.tick([A], [0], down)

    def test_silence(self):
        for first, last in ((5, 5), (5, 4), (1, 0)):
            self.refused(InvalidArgument, {"name": "last"}, self.pager.silence, (), first, last)
        self.assertEqual(told(self.pager), self.state)
        self.assertEqual(self.pager.tick([B], [0], []), ([], []))
        for time in range(2, 6):
            self.assertEqual(len(self.pager.tick([B], [0], [])[0]), 1 if time == 5 else 0)

    def test_refused_tick_changes_nothing(self):
        self.refuses("down", [B], [0], [("ann", 3)])
        self.refuses("up", [], [], [])
        self.assertEqual(self.pager.tick([A], [0], []), ([], []))
        self.assertEqual(self.pager.tick([A], [0], []), ([], [(0, "ann", True)]))


class TooLateTest(PagerTest):

    def test_ten_thousand(self):
        pager = Pager(one_person(routes=[route(wait=1000)]))
        for _ in range(9999):
            pager.tick([], [0], [])
        self.ticked(pager, [A], [])
        self.gives(10000, pager.time)
        state = told(pager)
        self.refused(TooLate, {}, pager.tick, [A], [0], [])
        self.refused(TooLate, {}, pager.tick, [], [0], [("ann", 0)])
        self.refused(InvalidArgument, {"name": "firing"}, pager.tick, [A, A], [0], [])
        self.refused(InvalidArgument, {"name": "up"}, pager.tick, [A], [1], [])
        self.refused(InvalidArgument, {"name": "down"}, pager.tick, [A], [0], [("ann", 1)])
        self.assertEqual(told(pager), state)


class ApartTest(PagerTest):

    def test_setup_stays_and_two_pagers_have_nothing_in_common(self):
        made = one_person(people=[("ann", 2), ("bob", 2)])
        before = repr(vars(made))
        one, other = Pager(made), Pager(made)
        state = told(other)
        one.stand_in("all", 0, 5, "bob")
        one.silence((), 3, 5)
        one.tick([A], [0], [])
        one.acknowledge(0, "bob")
        self.assertEqual(repr(vars(made)), before)
        self.assertEqual(told(other), state)
        self.gives("ann", other.on_call, "all")
        self.gives("ann", Pager(made).on_call, "all")

    def test_changes_of_the_lists_of_a_setup(self):
        made = one_person()
        pager = Pager(made)
        for rows in (made.people, made.schedules, made.policies, made.routes):
            rows.clear()
        self.ticked(pager, [A], [(0, 0, [A])], [(0, "ann", True)])

    def test_results_are_new(self):
        pager = Pager(one_person(policies=[("page", (("all", 0), ("all", 5)))], holdbacks=HeldTest.HOLDBACKS))
        firing, matchers = [A, B], [("job", ("c",), True)]
        pager.silence(matchers, 0, 9)
        pages, rings = pager.tick(firing, [0], [])
        state = told(pager)
        for rows in [firing, matchers, pages, rings] + state[1:]:
            self.assertTrue(rows)
            rows.clear()
        self.assertEqual(told(pager), [1, [(A, 0), (B, 0)], [(0, (), 0, ((A, 0), (B, 0)))], [(0, "page", 0, ((A, 0), (B, 0)), False)],
                                       [(A, 0), (B, 0)], [B]])
        self.idle(pager, [A, B, C], 8)

    def test_kinds(self):
        pager = Pager(one_person(policies=[("page", (("all", 0), ("all", 5)))]))
        page, ring = [rows[0] for rows in pager.tick([A], [0], [])]
        self.assertEqual(repr(page), "(0, (), 0, (((('job', 'a'),), 0),))")
        self.assertEqual(repr(ring), "(0, 'ann', True)")
        self.assertEqual(repr(pager.ledger()), "[(0, (), 0, (((('job', 'a'),), 0),))]")
        self.assertEqual(repr(pager.plans()), "[(0, 'page', 0, (((('job', 'a'),), 0),), False)]")
        self.assertEqual(repr(pager.runs()), "[((('job', 'a'),), 0)]")


class DrawnTest(PagerTest):

    def test_drawn_histories(self):
        """A pager does and tells the same as one that keeps all that ever happened."""
        chance = random.Random(66)
        seen = {"pages": 0, "reached": 0, "held": 0, "stopped": 0, "standins": 0}
        for _ in range(250):
            made = drawn_setup(chance)
            pager, plain = Pager(made), PlainPager(made)
            on = {labels: False for labels in chance.sample(ALERTS, 5)}
            rate = chance.choice((0.05, 0.2, 0.5))
            for _ in range(30):
                self.disturb(chance, pager, plain, seen)
                for labels in on:
                    on[labels] = on[labels] != (chance.random() < rate)
                firing = [labels for labels in on if on[labels]]
                up, down = drawn_up(chance, made), drawn_down(chance, made)
                found = pager.tick(firing, up, down)
                self.assertEqual(found, plain.tick(firing, up, down))
                self.assertEqual(told(pager), plain.state())
                seen["pages"] += len(found[0])
                seen["reached"] += len(pager.reached())
                seen["held"] += len(pager.held())
        for word, least in (("pages", 2000), ("reached", 3000), ("held", 200), ("stopped", 300), ("standins", 500)):
            self.assertGreater(seen[word], least, seen)

    def disturb(self, chance, pager, plain, seen):
        """Silence, stand in and acknowledge by chance."""
        now = pager.time()
        first = now + chance.randint(-2, 4)
        last = first + chance.randint(1, 8)
        if chance.random() < 0.05:
            matchers = drawn_matchers(chance, chance.choice((0, 1, 1, 2)))
            pager.silence(matchers, first, last)
            plain.silences.append((matchers, first, last))
        if chance.random() < 0.2:
            schedule, person = chance.choice(("first", "second")), chance.choice(PERSONS)
            if dict(plain.setup.people)[person] > plain.setup.down:
                pager.stand_in(schedule, first, last, person)
                plain.standins[schedule].append((first, last, person))
                seen["standins"] += 1
            else:
                self.refused(TooFewChannels, {}, pager.stand_in, schedule, first, last, person)
        for schedule in ("first", "second"):
            self.assertEqual(pager.on_call(schedule), plain.person_on_call(schedule, now))
        if plain.rings and chance.random() < 0.3:
            plan, person = chance.choice(plain.rings)[0], chance.choice(PERSONS)
            if (plan, person, True) in plain.rings:
                pager.acknowledge(plan, person)
                plain.stopped.append(plan)
                seen["stopped"] += 1
            else:
                self.refused(NotReached, {}, pager.acknowledge, plan, person)


if __name__ == "__main__":
    unittest.main()
