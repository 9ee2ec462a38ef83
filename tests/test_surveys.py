"""Points 50 to 53: sample alerts, surveys and differences."""

import itertools
import random
import unittest

from tests.support import WatchTest
from tests.test_routes import is_in, is_not, of, random_matchers, random_routes, route
from watchfloor.errors import TooManySamples
from watchfloor.matching import is_labels, matches, matches_all
from watchfloor.routes import end_of, way
from watchfloor.surveys import difference, sample_alerts, survey


def wide(name, many):
    """Return matchers of a name that contain so many values other than the empty text."""
    values = ["v%d" % k for k in range(many)]
    return [(name, tuple(values[k:k + 6]), True) for k in range(0, many, 6)]


class SampleAlertsTest(WatchTest):

    def test_no_names(self):
        self.gives([()], sample_alerts, [])

    def test_one_name(self):
        self.gives([(), of(a="1")], sample_alerts, [is_in("a", "1")])
        self.gives([(), of(a="1")], sample_alerts, [is_not("a", "1")])
        self.gives([(), of(a="2"), of(a="1")], sample_alerts, [is_in("a", "2", "1", "2")])
        self.gives([(), of(a="2"), of(a="1"), of(a="3")], sample_alerts, [is_in("a", "2", "1"), is_not("a", "1", "3", "2")])

    def test_empty_text_among_the_values(self):
        self.gives([(), of(a="x")], sample_alerts, [is_in("a", "")])
        self.gives([(), of(a="1"), of(a="2"), of(a="x")], sample_alerts, [is_not("a", "1", "", "2")])
        self.gives([(), of(a="1"), of(a="2"), of(a="x")], sample_alerts, [is_in("a", "1"), is_in("a", ""), is_in("a", "2")])

    def test_value_x_that_is_taken(self):
        self.gives([(), of(a="x"), of(a="xx")], sample_alerts, [is_in("a", "x", "")])
        self.gives([(), of(a="xx"), of(a="x"), of(a="xxx")], sample_alerts, [is_in("a", ""), is_in("a", "xx"), is_not("a", "x")])
        self.gives([(), of(a="xx"), of(a="x")], sample_alerts, [is_in("a", "", "xx")])
        self.gives([(), of(a="x")], sample_alerts, [is_in("a", "x")])
        taken = tuple("x" * k for k in range(1, 21))
        alerts = sample_alerts([("a", taken[k:k + 5] + ("",), True) for k in range(0, 20, 5)])
        self.assertEqual(alerts[-1], (("a", "x" * 21),))
        self.assertEqual(len(alerts), 22)

    def test_value_x_of_another_name_is_not_taken(self):
        self.gives([(), of(b="x"), of(a="x"), of(a="x", b="x")], sample_alerts, [is_in("a", ""), is_in("b", "x")])

    def test_order_of_several_names(self):
        expected = [(), of(a="1"), of(b="2"), of(a="1", b="2"), of(b="1"), of(a="1", b="1")]
        self.gives(expected, sample_alerts, [is_in("b", "2", "1"), is_in("a", "1")])
        self.gives(expected, sample_alerts, [is_in("b", "2"), is_in("a", "1"), is_in("b", "1")])
        found = sample_alerts([is_in("c", "1"), is_in("a", "2", "3"), is_in("b", "")])
        self.assertEqual(found, [of(**{name: value for name, value in zip("cab", values) if value})
                                 for values in itertools.product(("", "1"), ("", "2", "3"), ("", "x"))])

    def test_tuples_of_matchers(self):
        self.gives([(), of(a="1")], sample_alerts, (is_in("a", "1"),))

    def test_300_and_more(self):
        self.assertEqual(len(sample_alerts(wide("a", 299))), 300)
        self.refused(TooManySamples, {}, sample_alerts, wide("a", 300))
        self.refused(TooManySamples, {}, sample_alerts, wide("a", 299) + [is_in("a", "")])
        self.assertEqual(len(sample_alerts(wide("a", 9) + wide("b", 5) + wide("c", 4))), 300)
        self.refused(TooManySamples, {}, sample_alerts, wide("a", 6) + wide("b", 42))
        self.refused(TooManySamples, {}, sample_alerts, wide("b", 42) + wide("a", 6))
        self.refused(TooManySamples, {}, sample_alerts, [is_in("n%d" % k, "1") for k in range(9)])
        self.assertEqual(len(sample_alerts([is_in("n%d" % k, "1") for k in range(8)])), 256)
        self.refused(TooManySamples, {}, sample_alerts, [is_in("n%d" % k, "1") for k in range(200)])

    def test_every_alert_is_treated_as_a_sample_alert(self):
        """Point 51, for all alerts with few values."""
        chance = random.Random(51)
        for _ in range(200):
            matchers = random_matchers(chance, 5)
            treated = [tuple(matches(matcher, labels) for matcher in matchers) for labels in sample_alerts(matchers)]
            self.assertEqual(len(treated), len(set(sample_alerts(matchers))))
            self.assertTrue(all(is_labels(labels) for labels in sample_alerts(matchers)))
            for values in itertools.product(("", "1", "2", "3", "x"), repeat=3):
                labels = of(**{name: value for name, value in zip("abc", values) if value})
                self.assertIn(tuple(matches(matcher, labels) for matcher in matchers), treated)

    def test_result_is_new(self):
        matchers = [is_in("a", "1")]
        sample_alerts(matchers).clear()
        self.assertEqual(matchers, [is_in("a", "1")])
        self.assertEqual(len(sample_alerts(matchers)), 2)


class SurveyTest(WatchTest):

    def test_the_root_alone(self):
        self.gives([((), (), [])], survey, [route(None)], [])
        self.gives([(of(a="1"), of(a="1"), [])], survey, [route(None)], [is_in("a", "1")])

    def test_endings_and_ways(self):
        routes = [route(None), route(0, is_in("a", "1")), route(1, is_in("b", "1")), route(0)]
        self.gives([(None, (), []), (of(a="1"), of(a="1"), []), (of(a="1", b="1"), of(a="1", b="1"), []), ((), (), [])],
                   survey, routes, [])

    def test_route_at_which_nothing_ends(self):
        routes = [route(None), route(0, is_in("a", "1")), route(1, is_in("b", "1")), route(1)]
        self.gives([((), (), []), (None, of(a="1"), []), (of(a="1", b="1"), of(a="1", b="1"), []), (of(a="1"), of(a="1"), [])],
                   survey, routes, [])

    def test_order_begins_with_must(self):
        routes = [route(None), route(0, is_in("a", "1", "2")), route(0, is_in("b", "1"))]
        self.gives([(of(b="2"), of(b="2"), []), (of(a="1", b="2"), of(a="1", b="2"), []), (of(b="1"), of(b="1"), [])],
                   survey, routes, [is_in("b", "2", "1")])
        self.gives([(of(b="2"), of(b="2"), []), (of(a="1", b="2"), of(a="1", b="2"), []), (of(b="1"), of(b="1"), [])],
                   survey, routes, (is_in("b", "2", "1"),))

    def blockers(self, expected, *routes, must=()):
        found = survey([route(None)] + list(routes), list(must))
        self.assertEqual([row[2] for row in found], [[]] + expected)
        for _, through, blockers in found:
            self.assertTrue(through is None or blockers == [])

    def test_one_rival_takes_all(self):
        self.blockers([[], [1]], route(0), route(0, is_in("a", "1")))
        self.blockers([[], [1]], route(0, is_in("a", "1")), route(0, is_in("a", "1"), is_in("b", "1")))
        self.blockers([[], [], [2]], route(0, is_in("b", "1")), route(0, is_in("a", "1", "2")), route(0, is_in("a", "2")))

    def test_several_rivals_take_all_together(self):
        self.blockers([[], [], [1, 2]], route(0, is_in("a", "1")), route(0, is_in("a", "2")), route(0, is_in("a", "1", "2")))
        self.blockers([[], [], [1, 2]], route(0, is_in("a", "1")), route(0, is_not("a", "1")), route(0))
        self.blockers([[], [], [], [1, 3]], route(0, is_in("a", "1")), route(0, is_in("b", "1")), route(0, is_in("a", "2")),
                      route(0, is_in("a", "1", "2")))

    def test_earlier_rivals_are_left_out_first(self):
        self.blockers([[], [], [2]], route(0, is_in("a", "1")), route(0, is_in("a", "1", "2")), route(0, is_in("a", "1")))
        self.blockers([[], [1], [2]], route(0), route(0), route(0))
        self.blockers([[], [], [2], [2]], route(0, is_in("a", "1")), route(0, is_in("a", "1", "2")), route(0, is_in("a", "2")),
                      route(0, is_in("a", "1", "2")))

    def test_rivals_of_routes_around(self):
        self.blockers([[], [], [1]], route(0, is_in("a", "1")), route(0), route(2, is_in("a", "1")))
        self.blockers([[], [], [], [1]], route(0, is_in("a", "1")), route(0), route(2), route(3, is_in("a", "1")))
        self.blockers([[], [], [], [1, 3]], route(0, is_in("a", "1")), route(0), route(2, is_in("a", "2")),
                      route(2, is_in("a", "1", "2")))

    def test_children_of_a_route_that_nothing_goes_through(self):
        self.blockers([[], [1], [1]], route(0), route(0, is_in("a", "1")), route(2))
        self.blockers([[], [1], [1], [3]], route(0), route(0), route(2), route(2, is_in("a", "1")))

    def test_later_routes_and_those_with_other_parents_are_no_rivals(self):
        self.blockers([[], [], [], []], route(0, is_in("a", "1")), route(1, is_in("b", "1")), route(0, is_in("b", "1")), route(0))

    def test_route_that_no_alert_matches(self):
        """Nothing is left to be taken, so that every rival is left out."""
        self.blockers([[], []], route(0), route(0, is_in("a", "1"), is_in("a", "2")))
        self.blockers([[], [], []], route(0, is_in("b", "1")), route(0, is_in("a", "1")), route(2, is_in("a", "2")))

    def test_must(self):
        routes = route(0, is_in("a", "1")), route(0, is_in("b", "1"))
        self.blockers([[], []], *routes)
        self.blockers([[], [1]], *routes, must=[is_in("a", "1")])
        self.blockers([[], []], *routes, must=[is_in("a", "1"), is_not("b", "1")])
        self.blockers([[], []], *routes, must=[is_not("a", "1")])

    def test_must_that_nothing_matches(self):
        self.gives([(None, None, []), (None, None, []), (None, None, [])], survey,
                   [route(None), route(0), route(0, is_in("a", "1"))], [is_in("a", "1"), is_in("a", "2")])

    def test_too_many(self):
        routes = [route(None), route(0, *wide("a", 299))]
        self.assertEqual(len(survey(routes, [])), 2)
        self.refused(TooManySamples, {}, survey, routes, [is_in("b", "1")])
        self.refused(TooManySamples, {}, survey, routes, [is_in("a", "1"), is_in("a", "2")])
        self.refused(TooManySamples, {}, survey, [route(None)], wide("a", 300))

    def test_as_the_document_says(self):
        chance = random.Random(52)
        found = 0
        for _ in range(250):
            routes = [route(None)] + [route(chance.choice((0, 0, 0, number)), *random_matchers(chance, 2, "ab"))
                                      for number in range(chance.randint(2, 12))]
            must = random_matchers(chance, 2)
            matchers = must + [matcher for one in routes for matcher in one[1]]
            alerts = [labels for labels in sample_alerts(matchers) if matches_all(must, labels)]
            told = survey(routes, must)
            self.assertEqual(len(told), len(routes))
            for number, (ending, through, blockers) in enumerate(told):
                self.assertEqual(ending, next((one for one in alerts if end_of(routes, one) == number), None))
                self.assertEqual(through, next((one for one in alerts if number in way(routes, one)), None))
                self.assertEqual(blockers, [] if through is not None else self.left(routes, number, alerts))
                found += len(blockers) > 1
        self.assertGreater(found, 5)

    def left(self, routes, number, alerts):
        """Return the blockers of a route, as they are found in the document."""
        around = [number]
        while routes[around[-1]][0]:
            around.append(routes[around[-1]][0])
        rivals = [one for one in range(len(routes)) for at in around if one < at and routes[one][0] == routes[at][0]]
        coming = [labels for labels in alerts if all(matches_all(routes[at][1], labels) for at in around)]
        there = sorted(rivals)
        for rival in sorted(rivals):
            without = [one for one in there if one != rival]
            if not [labels for labels in coming if not any(matches_all(routes[one][1], labels) for one in without)]:
                there = without
        return there

    def test_results_are_new(self):
        routes = [route(None), route(0), route(0)]
        before = repr(routes)
        found = survey(routes, [])
        found[2][2].clear()
        found.clear()
        self.assertEqual(repr(routes), before)
        self.assertEqual(survey(routes, [])[2][2], [1])


class DifferenceTest(WatchTest):

    ROUTES = [route(None), route(0, is_in("a", "1"), group=("a",)), route(0, is_in("b", "1"), group=("b",))]

    def test_alike(self):
        self.gives(None, difference, self.ROUTES, list(self.ROUTES), [])
        self.gives(None, difference, [route(None)], [route(None)], [])
        self.gives(None, difference, [route(None)], [route(None), route(0, is_in("a", "1"))], [])
        self.gives(None, difference, self.ROUTES, self.ROUTES + [route(0, is_in("c", "1")), route(1, is_in("c", "1"), group=("a",))], [])

    def test_other_order(self):
        other = [self.ROUTES[0], self.ROUTES[2], self.ROUTES[1]]
        self.gives(of(a="1", b="1"), difference, self.ROUTES, other, [])
        self.gives(of(a="1", b="1"), difference, other, self.ROUTES, [])
        self.gives(None, difference, self.ROUTES, other, [is_not("a", "1")])
        self.gives(None, difference, self.ROUTES, other, [is_in("b", "2")])

    def test_the_first_alert(self):
        """The sample alerts are those of `must`, of the first list and of the second list, in this order."""
        one, two = [route(None), route(0, is_in("a", "1"), group=("a",))], [route(None), route(0, is_in("b", "1"), group=("a",))]
        self.gives(of(b="1"), difference, one, two, [])
        self.gives(of(a="1"), difference, two, one, [])
        self.gives(of(a="1"), difference, one, two, [is_in("b", "1", "")])
        self.gives(of(a="1", b="2"), difference, one, two, [is_in("b", "2")])
        self.gives(of(b="1"), difference, one, two, [is_not("a", "1")])
        self.gives(None, difference, one, two, (is_in("a", "1"), is_in("b", "1")))

    def test_alert_without_labels(self):
        self.gives((), difference, [route(None)], [route(None, group=("a",))], [])

    def test_each_part_of_the_settings(self):
        settings = (("a", "b"), 1, 2, 3, ("m", "n"), "rota")
        for place, other in enumerate((("b", "a"), 2, 3, 4, ("n", "m"), "late")):
            changed = settings[:place] + (other,) + settings[place + 1:]
            self.gives((), difference, [(None, (), settings)], [(None, (), changed)], [])
        self.gives(None, difference, [(None, (), settings)], [(None, (), tuple(list(settings)))], [])

    def test_must_that_nothing_matches(self):
        self.gives(None, difference, [route(None)], [route(None, group=("a",))], [is_in("a", "1"), is_in("a", "2")])

    def test_too_many(self):
        one, two = [route(None), route(0, *wide("a", 150))], [route(None), route(0, *wide("a", 299))]
        self.gives(None, difference, one, two, [])
        self.refused(TooManySamples, {}, difference, one, two, [is_in("b", "1")])
        self.refused(TooManySamples, {}, difference, two, one, [is_in("a", "")])
        self.refused(TooManySamples, {}, difference, [route(None)], [route(None)], wide("a", 300))
        self.refused(TooManySamples, {}, difference, two, [route(None, group=("a",)), route(0, is_in("b", "1"))], [])

    def test_as_the_document_says(self):
        chance = random.Random(53)
        seen = 0
        for _ in range(200):
            lists = [[one[:2] + (chance.choice("pq"),) for one in random_routes(chance)[:4]] for _ in range(2)]
            must = random_matchers(chance, 1)
            alerts = sample_alerts(must + [matcher for routes in lists for one in routes for matcher in one[1]])
            unequal = [labels for labels in alerts if matches_all(must, labels)
                       and lists[0][end_of(lists[0], labels)][2] != lists[1][end_of(lists[1], labels)][2]]
            self.gives(unequal[0] if unequal else None, difference, lists[0], lists[1], must)
            seen += bool(unequal)
        self.assertTrue(50 < seen < 200)


if __name__ == "__main__":
    unittest.main()
