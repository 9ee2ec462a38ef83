"""Points 45 to 49: the ways of alerts, their groups, and holdbacks."""

import itertools
import random
import unittest

from tests.support import WatchTest
from watchfloor.matching import labels_of, matches, matches_all
from watchfloor.routes import end_of, group_of, holds_back, refusals, way

SETTINGS = ((), 0, 5, 240, (), "rota")


def is_in(name, *values):
    return (name, values, True)


def is_not(name, *values):
    return (name, values, False)


def route(parent, *matchers, group=()):
    return (parent, matchers, (group,) + SETTINGS[1:])


def of(**labels):
    return labels_of(list(labels.items()))


ROUTES = [
    route(None, group=("alert",)),
    route(0, is_in("team", "web"), group=("job", "zone")),
    route(0, is_in("team", "web", "db"), is_in("job", "a"), group=("team",)),
    route(1, is_in("job", "a", "b")),
    route(1, is_not("zone", "")),
    route(3, is_in("zone", "x"), group=("zone", "job", "zone")),
    route(0, is_in("team", ""), is_not("job", "c")),
    route(2),
    route(2, is_in("job", "a")),
]


class WayTest(WatchTest):

    def goes(self, numbers, **labels):
        self.gives(numbers, way, ROUTES, of(**labels))
        self.gives(numbers[-1], end_of, ROUTES, of(**labels))

    def test_the_root_alone(self):
        self.gives([0], way, ROUTES[:1], ())
        self.gives([0], way, ROUTES[:1], of(job="a"))
        self.gives(0, end_of, ROUTES[:1], of(job="a"))
        self.goes([0], team="other")
        self.goes([0], job="c")
        self.goes([0], team="db", job="b")

    def test_several_levels(self):
        self.goes([0, 1], team="web")
        self.goes([0, 1], team="web", job="c")
        self.goes([0, 1, 3], team="web", job="b")
        self.goes([0, 1, 3, 5], team="web", job="b", zone="x")
        self.goes([0, 1, 3], team="web", job="b", zone="y")
        self.goes([0, 1, 4], team="web", job="c", zone="x")
        self.goes([0, 1, 4], team="web", zone="x")

    def test_the_first_route_that_matches(self):
        """Also where a later one would lead further."""
        self.goes([0, 1, 3], team="web", job="a")
        self.goes([0, 2, 7], team="db", job="a")

    def test_labels_that_are_missing(self):
        self.goes([0, 6])
        self.goes([0, 6], job="a")
        self.goes([0, 6], zone="x")

    def test_route_without_matchers_takes_what_earlier_ones_leave(self):
        routes = [route(None), route(0, is_in("a", "1")), route(0), route(0, is_in("a", "2")), route(2, is_in("b", "1"))]
        for labels, numbers in ((of(a="1"), [0, 1]), (of(a="2"), [0, 2]), (of(), [0, 2]), (of(a="2", b="1"), [0, 2, 4]),
                                (of(a="1", b="1"), [0, 1])):
            self.gives(numbers, way, routes, labels)

    def test_children_stand_anywhere_behind_their_parent(self):
        routes = [route(None), route(0, is_in("a", "1")), route(0), route(1), route(2), route(1), route(4), route(3)]
        self.gives([0, 1, 3, 7], way, routes, of(a="1"))
        self.gives([0, 2, 4, 6], way, routes, of(a="2"))

    def test_a_long_way(self):
        routes = [route(None)] + [route(number) for number in range(29)]
        self.gives(list(range(30)), way, routes, of(a="1"))
        self.gives(29, end_of, routes, ())

    def test_as_the_document_says(self):
        chance = random.Random(46)
        longest = 0
        for _ in range(300):
            routes = random_routes(chance)
            labels = random_labels(chance)
            numbers = [0]
            while True:
                children = [number for number, found in enumerate(routes)
                            if found[0] == numbers[-1] and matches_all(found[1], labels)]
                if not children:
                    break
                numbers.append(min(children))
            self.gives(numbers, way, routes, labels)
            self.gives(numbers[-1], end_of, routes, labels)
            longest = max(longest, len(numbers))
        self.assertGreater(longest, 4)


def random_labels(chance):
    return of(**{name: chance.choice("12") for name in "abc" if chance.random() < 0.6})


def random_matchers(chance, most, names="abc"):
    return [(chance.choice(names), tuple(chance.sample(("1", "2", ""), chance.randint(1, 2))), chance.random() < 0.6)
            for _ in range(chance.randint(0, most))]


def random_routes(chance):
    return [route(None)] + [route(chance.randint(0, number), *random_matchers(chance, 2))
                            for number in range(chance.randint(0, 10))]


class RefusalsTest(WatchTest):

    def explained(self, expected, **labels):
        self.gives(expected, refusals, ROUTES, of(**labels))

    def test_routes_before_the_next_one_of_the_way(self):
        self.explained([(0, []), (1, []), (3, []), (5, [])], team="web", job="a", zone="x")
        self.explained([(0, [(1, 0)]), (2, []), (7, [])], team="db", job="a")
        self.explained([(0, [(1, 0), (2, 0)]), (6, [])], job="a")

    def test_all_routes_with_this_parent_where_the_way_ends(self):
        self.explained([(0, []), (1, [(3, 0), (4, 0)])], team="web")
        self.explained([(0, []), (1, [(3, 0)]), (4, [])], team="web", zone="x")
        self.explained([(0, []), (1, []), (3, [(5, 0)])], team="web", job="a")
        self.gives([(0, [])], refusals, ROUTES[:1], ())

    def test_place_of_the_first_matcher_that_does_not_match(self):
        self.explained([(0, [(1, 0), (2, 1), (6, 0)])], team="db", job="b")
        self.explained([(0, [(1, 0), (2, 0), (6, 1)])], job="c")
        matchers = [is_in("a", "1"), is_in("b", "1"), is_in("c", "1")]
        routes = [route(None), route(0, *matchers)]
        for values in itertools.product("12", repeat=3):
            labels = of(a=values[0], b=values[1], c=values[2])
            expected = [(0, [(1, values.index("2"))])] if "2" in values else [(0, []), (1, [])]
            self.gives(expected, refusals, routes, labels)

    def test_as_the_document_says(self):
        chance = random.Random(47)
        many = 0
        for _ in range(300):
            routes, labels = random_routes(chance), random_labels(chance)
            numbers = way(routes, labels)
            found = refusals(routes, labels)
            self.assertEqual([row[0] for row in found], numbers)
            for place, (number, refused) in enumerate(found):
                before = numbers[place + 1] if place + 1 < len(numbers) else len(routes)
                self.assertEqual([row[0] for row in refused],
                                 [other for other in range(before) if routes[other][0] == number])
                for other, at in refused:
                    self.assertTrue(matches_all(routes[other][1][:at], labels))
                    self.assertFalse(matches(routes[other][1][at], labels))
                    many += at
        self.assertGreater(many, 20)

    def test_results_are_new(self):
        before = repr(ROUTES)
        found = refusals(ROUTES, of(job="a"))
        found[0][1].clear()
        found.clear()
        way(ROUTES, of(job="a")).clear()
        self.assertEqual(repr(ROUTES), before)
        self.explained([(0, [(1, 0), (2, 0)]), (6, [])], job="a")


class GroupTest(WatchTest):

    def test_names_of_the_route_at_which_the_alert_ends(self):
        self.gives((0, of(alert="down")), group_of, ROUTES, of(alert="down", team="other", zone="x"))
        self.gives((1, of(job="c")), group_of, ROUTES, of(alert="down", team="web", job="c"))
        self.gives((3, ()), group_of, ROUTES, of(alert="down", team="web", job="b"))

    def test_names_that_the_alert_lacks(self):
        self.gives((0, ()), group_of, ROUTES, of(team="other", zone="x"))
        self.gives((1, ()), group_of, ROUTES, of(team="web"))
        self.gives((0, ()), group_of, ROUTES[:1], ())

    def test_names_that_stand_there_twice(self):
        self.gives((5, of(job="b", zone="x")), group_of, ROUTES, of(alert="down", team="web", job="b", zone="x"))


class HoldbackTest(WatchTest):

    DOWN, SLOW = of(alert="down", job="a"), of(alert="slow", job="a", zone="x")
    ONE = ((is_in("alert", "down"),), (is_in("alert", "slow"),), ("job",))

    def held(self, expected, holdbacks, labels, other):
        self.gives(expected, holds_back, holdbacks, labels, other)

    def test_source_and_target(self):
        self.held(True, [self.ONE], self.DOWN, self.SLOW)
        self.held(False, [self.ONE], self.SLOW, self.DOWN)
        self.held(False, [self.ONE], of(alert="other", job="a"), self.SLOW)
        self.held(False, [self.ONE], self.DOWN, of(alert="other", job="a"))
        self.held(False, [], self.DOWN, self.SLOW)

    def test_all_matchers_of_both_sides(self):
        source, target = (is_in("alert", "down"), is_not("zone", "x")), (is_in("alert", "slow"), is_in("zone", "x"))
        self.held(True, [(source, target, ())], self.DOWN, self.SLOW)
        self.held(False, [(source, target, ())], of(alert="down", zone="x"), self.SLOW)
        self.held(False, [(source, target, ())], self.DOWN, of(alert="slow"))
        self.held(True, [((), (), ())], self.DOWN, self.SLOW)

    def test_equal_labels(self):
        self.held(False, [self.ONE], self.DOWN, of(alert="slow", job="b"))
        self.held(False, [self.ONE], self.DOWN, of(alert="slow"))
        self.held(False, [self.ONE], of(alert="down"), self.SLOW)
        two = self.ONE[:2] + (("job", "zone"),)
        self.held(False, [two], self.DOWN, self.SLOW)
        self.held(True, [two], of(alert="down", job="a", zone="x"), self.SLOW)
        self.held(False, [two], of(alert="down", job="b", zone="x"), self.SLOW)

    def test_labels_that_both_lack(self):
        self.held(True, [self.ONE], of(alert="down"), of(alert="slow"))
        self.held(True, [self.ONE[:2] + (("job", "other"),)], self.DOWN, self.SLOW)

    def test_no_equal_labels(self):
        self.held(True, [self.ONE[:2] + ((),)], self.DOWN, of(alert="slow", job="b"))

    def test_an_alert_never_holds_back_itself(self):
        for labels in (self.DOWN, self.SLOW, ()):
            self.held(False, [((), (), ())], labels, labels)
            self.held(False, [((), (), ("job",)), ((), (), ())], labels, labels)
        self.held(True, [((), (), ())], (), self.DOWN)
        self.held(True, [((), (), ())], self.DOWN, of(alert="down"))

    def test_some_holdback(self):
        other = ((is_in("alert", "slow"),), (is_in("alert", "down"),), ())
        for holdbacks in ([self.ONE, other], [other, self.ONE]):
            self.held(True, holdbacks, self.DOWN, self.SLOW)
            self.held(True, holdbacks, self.SLOW, self.DOWN)
            self.held(False, holdbacks, of(alert="down", job="b"), self.SLOW)


if __name__ == "__main__":
    unittest.main()
