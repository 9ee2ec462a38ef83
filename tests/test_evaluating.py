"""Points 39, 40, 41 and 44: the evaluation of groups of rules."""

import random
import unittest

from tests.support import WatchTest, small_vector, small_view
from watchfloor.alerting import alert_labels, record_labels, times_of
from watchfloor.errors import InvalidArgument, NotLater, TooManyTimes
from watchfloor.evaluating import Evaluator
from watchfloor.evaluating import test_rules as tested
from watchfloor.parsing import parse
from watchfloor.samples import add_sample, sample_at, view_of
from watchfloor.setup import setup
from watchfloor.values import value_at


def setup_of(*groups, lookback=5):
    """Return a setup with these groups of rules."""
    return setup(week=10, people=[], schedules=[("s", (), ())], policies=[("p", (("s", 0),))],
                 routes=[(None, (), ((), 0, 5, 240, (), "p"))], groups=groups, lookback=lookback)


def record(name, text, *labels):
    return ("record", name, parse(text), labels)


def alert(name, text, hold, keep, *labels):
    return ("alert", name, parse(text), labels, hold, keep)


def of(metric, time, value, **labels):
    return tuple(sorted([("metric", metric)] + list(labels.items()))), time, value


def alerts(name, *jobs):
    return [(("alert", name), ("job", job)) for job in jobs]


VIEW = view_of([of("up", time, value, job="a") for time, value in ((0, 1), (3, 0), (4, 0), (6, 1), (9, 0))]
               + [of("up", time, value, job="b") for time, value in ((0, 0), (2, 1), (8, 0))])
DOWN = alert("down", "up == 0", 0, 0)


class EvaluatorTest(WatchTest):

    def evaluated(self, evaluator, time, view, missed, *recorded):
        """Evaluate, and check what is recorded and the view with it."""
        before = list(view)
        found = evaluator.evaluate(time, view, missed)
        self.assertEqual(view, before)
        self.assertIs(type(found), tuple)
        self.assertEqual(found[1], list(recorded))
        self.assertEqual(repr(found), repr((view_of(before + list(recorded)), list(recorded))))
        return found[0]

    def fires(self, evaluator, **since):
        """Check which alerts `down` fire, told by their jobs."""
        self.gives([((("alert", "down"), ("job", job)), since[job]) for job in sorted(since)], evaluator.firing)


class RecordTest(EvaluatorTest):

    def test_entries_become_samples(self):
        made = setup_of(("g", 1, 0, (record("load", "up * 10"),)))
        self.evaluated(Evaluator(made), 4, VIEW, [], of("load", 4, 0, job="a"), of("load", 4, 10, job="b"))

    def test_labels_of_the_rule(self):
        made = setup_of(("g", 1, 0, (record("load", "up", ("team", "x")), record("one", 'up{job="a"}', ("job", "c")))))
        self.evaluated(Evaluator(made), 4, VIEW, [], of("load", 4, 0, job="a", team="x"), of("load", 4, 1, job="b", team="x"),
                       of("one", 4, 0, job="c"))

    def test_later_rules_see_what_was_recorded_at_the_same_time(self):
        made = setup_of(("g", 1, 0, (record("one", "sum(up)"), record("two", "one + 1"))),
                        ("h", 1, 0, (record("three", "one + two"), DOWN, alert("full", "three > 2", 0, 0))))
        evaluator = Evaluator(made)
        self.evaluated(evaluator, 4, VIEW, [], of("one", 4, 1), of("three", 4, 3), of("two", 4, 2))
        self.gives([((("alert", "down"), ("job", "a")), 4), ((("alert", "full"),), 4)], evaluator.firing)

    def test_earlier_rules_do_not_see_it(self):
        made = setup_of(("g", 1, 0, (record("two", "one + 1"), record("one", "sum(up)"))))
        evaluator = Evaluator(made)
        view = self.evaluated(evaluator, 4, VIEW, [], of("one", 4, 1))
        self.evaluated(evaluator, 5, view, [], of("one", 5, 1), of("two", 5, 2))

    def test_rules_that_read_what_they_record(self):
        made = setup_of(("g", 1, 0, (record("up", "up + 1"),)))
        self.evaluated(Evaluator(made), 5, [of("up", 4, 7)], [], of("up", 5, 8))
        self.evaluated(Evaluator(made), 4, [of("up", 4, 7)], [])

    def test_sample_that_is_there_already_stays(self):
        made = setup_of(("g", 1, 0, (record("load", "up"), record("load", "up + 5"), record("copy", "load"))))
        view = view_of(VIEW + [of("load", 4, 77, job="a"), of("load", 3, 70, job="b")])
        self.evaluated(Evaluator(made), 4, view, [], of("copy", 4, 77, job="a"), of("copy", 4, 1, job="b"),
                       of("load", 4, 1, job="b"))

    def test_entries_that_lead_to_the_same_labels(self):
        made = setup_of(("g", 1, 0, (record("load", "up", ("job", "c")),)))
        self.evaluated(Evaluator(made), 4, VIEW, [], of("load", 4, 0, job="c"))
        self.evaluated(Evaluator(made), 0, VIEW, [], of("load", 0, 1, job="c"))

    def test_recorded_samples_are_ascending(self):
        made = setup_of(("g", 1, 0, (record("zz", "up"), record("aa", "sum(up)"), record("mm", "up", ("a", "1")))))
        self.evaluated(Evaluator(made), 4, VIEW, [], of("mm", 4, 0, a="1", job="a"), of("mm", 4, 1, a="1", job="b"),
                       of("zz", 4, 0, job="a"), of("zz", 4, 1, job="b"), of("aa", 4, 1))

    def test_more_than_plain_samples(self):
        pairs = tuple(("n%d" % k, "v") for k in range(6))
        made = setup_of(("g", 1, 0, (record("load", "up * up", *tuple(("o%d" % k, "v") for k in range(6))),)))
        sample = tuple(sorted(pairs + (("metric", "up"),))), 3, 10 ** 15 - 1
        labels = tuple(sorted(pairs + tuple(("o%d" % k, "v") for k in range(6)) + (("metric", "load"),)))
        self.evaluated(Evaluator(made), 3, [sample], [], (labels, 3, (10 ** 15 - 1) ** 2))

    def test_lookback_of_the_setup(self):
        for lookback in (1, 2, 7, 1000):
            made = setup_of(("g", 1, 0, (record("load", "up"),)), lookback=lookback)
            view = [of("up", 3, 1)]
            for time in (3, 3 + lookback - 1, 3 + lookback):
                expected = [of("load", time, 1)] if time < 3 + lookback else []
                self.evaluated(Evaluator(made), time, view, [], *expected)

    def test_spans_longer_and_shorter_than_the_lookback(self):
        made = setup_of(("g", 1, 0, (record("one", "count_over(up[9])"), record("two", "count_over(up[2])"), record("six", "up"))))
        view = [of("up", time, time) for time in range(20)]
        self.evaluated(Evaluator(made), 12, view, [], of("one", 12, 9), of("six", 12, 12), of("two", 12, 2))
        self.evaluated(Evaluator(made), 23, view, [], of("one", 23, 5), of("six", 23, 19))

    def test_samples_behind_the_time_are_not_read(self):
        made = setup_of(("g", 1, 0, (record("load", "count_over(up[1000])"),)))
        self.evaluated(Evaluator(made), 3, [of("up", time, 0) for time in range(9)], [], of("load", 3, 4))

    def test_results_are_new(self):
        evaluator = Evaluator(setup_of(("g", 2, 0, (record("load", "up"),))))
        for time in (3, 4):
            view = list(VIEW)
            found, recorded = evaluator.evaluate(time, view, [])
            found.clear()
            recorded.clear()
            self.assertEqual(view, VIEW)

    def test_empty(self):
        self.evaluated(Evaluator(setup_of()), 4, VIEW, [])
        self.evaluated(Evaluator(setup_of(("g", 1, 0, ()))), 4, VIEW, [])
        self.evaluated(Evaluator(setup_of(("g", 1, 0, (record("load", "up"), DOWN)))), 4, [], [])


class DueTest(EvaluatorTest):

    GROUPS = (("g", 3, 1, (record("one", "sum(up)"),)), ("h", 2, 0, (record("two", "sum(up)"),)), ("i", 4, 3, ()))

    def recorded(self, time, missed, *names):
        self.evaluated(Evaluator(setup_of(*self.GROUPS, lookback=100)), time, [of("up", 0, 7)], missed,
                       *[of(name, time, 7) for name in names])

    def test_groups_that_are_due(self):
        for time, names in ((0, ["two"]), (1, ["one"]), (2, ["two"]), (3, []), (4, ["one", "two"]), (5, []), (7, ["one"])):
            self.recorded(time, [], *names)

    def test_missed_groups(self):
        self.recorded(4, ["g"], "two")
        self.recorded(4, ["h"], "one")
        self.recorded(4, ["g", "h"])
        self.recorded(4, ["h", "g"])

    def test_missed_groups_that_are_named_twice_or_not_due(self):
        self.recorded(4, ["g", "g"], "two")
        self.recorded(4, ["h", "g", "h"])
        self.recorded(4, ["i"], "one", "two")
        self.recorded(1, ["h"], "one")
        self.recorded(3, ["h", "i", "g"])

    def test_alerts_of_groups_that_are_not_evaluated_stay(self):
        evaluator = Evaluator(setup_of(("g", 2, 0, (DOWN,)), ("h", 1, 0, (alert("other", "up == 0", 0, 0),))))
        self.evaluated(evaluator, 2, [of("up", 2, 0, job="a")], [])
        self.gives([((("alert", "down"), ("job", "a")), 2), ((("alert", "other"), ("job", "a")), 2)], evaluator.firing)
        self.evaluated(evaluator, 3, [of("up", 3, 1, job="a")], [])
        self.fires(evaluator, a=2)
        self.evaluated(evaluator, 4, [of("up", 4, 1, job="a")], ["g"])
        self.fires(evaluator, a=2)
        self.gives([(alerts("down", "a")[0], (2, 2, 2))], evaluator.alerts, "g", 0)
        self.evaluated(evaluator, 6, [of("up", 6, 1, job="a")], [])
        self.fires(evaluator)


class AlertTest(EvaluatorTest):

    def test_conditions_that_hold_and_do_not(self):
        evaluator = Evaluator(setup_of(("g", 1, 0, (DOWN,)), lookback=100))
        for time, since in ((0, {"b": 0}), (1, {"b": 0}), (2, {}), (3, {"a": 3}), (4, {"a": 3}), (6, {}), (8, {"b": 8}),
                            (9, {"a": 9, "b": 8})):
            self.evaluated(evaluator, time, VIEW, [])
            self.fires(evaluator, **since)

    def test_hold_and_keep(self):
        evaluator = Evaluator(setup_of(("g", 1, 0, (alert("down", "up == 0", 2, 2),)), lookback=1))
        told = {3: (3, None, 3), 4: (3, None, 4), 5: (3, 5, 5), 6: (3, 5, 5), 7: None, 8: (8, None, 8), 9: None,
                10: (10, None, 10), 12: (10, 12, 12), 13: (10, 12, 12), 14: None}
        for time, times in told.items():
            value = 1 if times is None or times[2] != time else 0
            self.evaluated(evaluator, time, [of("up", time, value, job="a")], [])
            self.gives([(alerts("down", "a")[0], times)] if times else [], evaluator.alerts, "g", 0)
            self.fires(evaluator, **({"a": times[1]} if times and times[1] else {}))

    def test_alerts_of_rules(self):
        evaluator = Evaluator(setup_of(("g", 1, 0, (DOWN, record("load", "up"), alert("held", "up == 0", 5, 0))),
                                       ("h", 1, 0, (alert("some", "up >= 0", 0, 0),)), lookback=100))
        self.gives([], evaluator.alerts, "g", 0)
        self.gives([], evaluator.alerts, "h", 0)
        self.evaluated(evaluator, 8, VIEW, [], of("load", 8, 1, job="a"), of("load", 8, 0, job="b"))
        self.evaluated(evaluator, 9, VIEW, [], of("load", 9, 0, job="a"), of("load", 9, 0, job="b"))
        down, held, some = alerts("down", "a", "b"), alerts("held", "a", "b"), alerts("some", "a", "b")
        self.gives([(down[0], (9, 9, 9)), (down[1], (8, 8, 9))], evaluator.alerts, "g", 0)
        self.gives([], evaluator.alerts, "g", 1)
        self.gives([(held[0], (9, None, 9)), (held[1], (8, None, 9))], evaluator.alerts, "g", 2)
        self.gives([(some[0], (8, 8, 9)), (some[1], (8, 8, 9))], evaluator.alerts, "h", 0)
        self.gives([(down[0], 9), (down[1], 8), (some[0], 8), (some[1], 8)], evaluator.firing)

    def test_two_rules_for_the_same_alert(self):
        """It fires since the least of the times since which rules have it firing."""
        one, other = alert("down", "one > 0", 0, 0), alert("down", "other > 0", 0, 0)
        for rules in ((one, other), (other, one)):
            evaluator = Evaluator(setup_of(("g", 1, 0, rules), lookback=1))
            for time, ones, others, since in ((1, 1, 0, 1), (2, 1, 1, 1), (3, 0, 1, 2), (4, 1, 1, 2), (5, 1, 0, 4), (6, 0, 0, None)):
                self.evaluated(evaluator, time, view_of([of("one", time, ones), of("other", time, others)]), [])
                self.gives([] if since is None else [((("alert", "down"),), since)], evaluator.firing)

    def test_one_rule_that_fires_and_one_that_does_not(self):
        evaluator = Evaluator(setup_of(("g", 1, 0, (alert("down", "up", 3, 0), alert("down", "up", 0, 0))), lookback=9))
        for time in (1, 2):
            self.evaluated(evaluator, time, [of("up", 1, 1)], [])
            self.gives([((("alert", "down"),), 1)], evaluator.firing)
        self.gives([((("alert", "down"),), (1, None, 2))], evaluator.alerts, "g", 0)

    def test_entries_that_lead_to_the_same_alert(self):
        evaluator = Evaluator(setup_of(("g", 1, 0, (alert("down", "up == 0", 0, 0, ("job", "c")),)), lookback=100))
        for time, since in ((1, {"c": 1}), (2, {}), (4, {"c": 4}), (9, {"c": 4})):
            self.evaluated(evaluator, time, VIEW, [])
            self.fires(evaluator, **since)

    def test_results_are_new(self):
        evaluator = Evaluator(setup_of(("g", 1, 0, (DOWN,)), lookback=100))
        evaluator.evaluate(9, VIEW, [])
        firing, told = evaluator.firing(), evaluator.alerts("g", 0)
        evaluator.firing().clear()
        evaluator.alerts("g", 0).clear()
        self.gives(firing, evaluator.firing)
        self.gives(told, evaluator.alerts, "g", 0)

    def test_as_the_times_of_each_rule(self):
        """Beside a plain reckoning: each rule over the view with what was recorded before, each alert by its evaluations."""
        chance = random.Random(41)
        fired = 0
        for _ in range(60):
            groups = []
            for name in "gh":
                rules = []
                for _ in range(chance.randint(1, 3)):
                    labels = (("job", "c"),) if chance.random() < 0.2 else ()
                    if chance.random() < 0.4:
                        rules.append(("record", chance.choice(("up", "load")), small_vector(chance, 2), labels))
                    else:
                        times = chance.randint(0, 3), chance.randint(0, 3)
                        rules.append(("alert", chance.choice(("one", "two")), small_vector(chance, 2), labels) + times)
                every = chance.randint(1, 3)
                groups.append((name, every, chance.randrange(every), tuple(rules)))
            evaluator, view, lookback = Evaluator(setup_of(*groups, lookback=3)), small_view(chance, 30), 3
            history = {}
            for time in range(14):
                missed = [name for name in "gh" if chance.random() < 0.15]
                known = list(view)
                for name, every, offset, rules in groups:
                    if time % every != offset or name in missed:
                        continue
                    for place, rule in enumerate(rules):
                        value = value_at(rule[2], lookback, known, time)
                        if rule[0] == "record":
                            for entry, number in value:
                                known = add_sample(known, (record_labels(rule[1], rule[3], entry), time, number))
                        else:
                            holding = [alert_labels(rule[1], rule[3], entry) for entry, _ in value]
                            history.setdefault((name, place), []).append((time, holding))
                recorded = [sample for sample in known if sample_at(view, sample[0], sample[1]) is None]
                self.assertEqual(evaluator.evaluate(time, view, missed), (known, recorded))
                view = known
                fired += self.compare(evaluator, groups, history)
        self.assertGreater(fired, 300)

    def compare(self, evaluator, groups, history):
        """Compare the alerts of all rules with their history; return how many fire."""
        firing = {}
        for name, _, _, rules in groups:
            for place, rule in enumerate(rules):
                if rule[0] == "record":
                    self.assertEqual(evaluator.alerts(name, place), [])
                    continue
                rows = history.get((name, place), [])
                found = {}
                for labels in {labels for _, holding in rows for labels in holding}:
                    times = times_of(rule[4], rule[5], [(time, labels in holding) for time, holding in rows])
                    if times is not None:
                        found[labels] = times
                        if times[1] is not None:
                            firing[labels] = min(times[1], firing.get(labels, times[1]))
                self.assertEqual(evaluator.alerts(name, place), sorted(found.items()))
        self.assertEqual(evaluator.firing(), sorted(firing.items()))
        return len(firing)


class RefusalTest(EvaluatorTest):

    def evaluator(self):
        evaluator = Evaluator(setup_of(("g", 1, 0, (DOWN, record("load", "up"))), ("h", 1, 0, (DOWN,)), lookback=100))
        evaluator.evaluate(4, VIEW, [])
        return evaluator

    def told(self, evaluator):
        return evaluator.firing(), evaluator.alerts("g", 0), evaluator.alerts("g", 1), evaluator.alerts("h", 0)

    def test_missed(self):
        evaluator = self.evaluator()
        before = self.told(evaluator)
        for missed in (["i"], ["g", "i"], ["i", "g"], [""], ["g", "h", "gh"]):
            self.refused(InvalidArgument, {"name": "missed"}, evaluator.evaluate, 9, VIEW, missed)
            self.refused(InvalidArgument, {"name": "missed"}, evaluator.evaluate, 4, VIEW, missed)
            self.refused(InvalidArgument, {"name": "missed"}, Evaluator(setup_of()).evaluate, 9, VIEW, missed)
        self.assertEqual(self.told(evaluator), before)
        self.evaluated(evaluator, 5, VIEW, ["g"])

    def test_not_later(self):
        evaluator = self.evaluator()
        before = self.told(evaluator)
        for time in (0, 3, 4):
            self.refused(NotLater, {}, evaluator.evaluate, time, VIEW, [])
            self.refused(NotLater, {}, evaluator.evaluate, time, VIEW, ["g", "h"])
            self.refused(NotLater, {}, evaluator.evaluate, time, [], [])
        self.assertEqual(self.told(evaluator), before)
        self.evaluated(evaluator, 5, VIEW, ["g"])
        self.refused(NotLater, {}, evaluator.evaluate, 5, VIEW, [])

    def test_first_evaluation_at_any_time(self):
        for time in (0, 1, 10000):
            self.evaluated(Evaluator(setup_of()), time, VIEW, [])

    def test_evaluation_without_due_groups_is_one(self):
        evaluator = Evaluator(setup_of(("g", 5, 0, (DOWN,))))
        self.evaluated(evaluator, 3, VIEW, [])
        self.refused(NotLater, {}, evaluator.evaluate, 3, VIEW, [])
        self.refused(NotLater, {}, evaluator.evaluate, 0, VIEW, [])

    def test_refused_evaluation_is_none(self):
        evaluator = self.evaluator()
        self.refused(InvalidArgument, {"name": "missed"}, evaluator.evaluate, 9, VIEW, ["i"])
        self.evaluated(evaluator, 5, VIEW, [], of("load", 5, 0, job="a"), of("load", 5, 1, job="b"))

    def test_group_and_rule(self):
        evaluator = self.evaluator()
        for group in ("i", "", "gh"):
            for rule in (0, 2, -1):
                self.refused(InvalidArgument, {"name": "group"}, evaluator.alerts, group, rule)
        for group, rule in (("g", 2), ("g", 3), ("g", -1), ("g", -2), ("h", 1), ("h", 100)):
            self.refused(InvalidArgument, {"name": "rule"}, evaluator.alerts, group, rule)
        self.refused(InvalidArgument, {"name": "rule"}, Evaluator(setup_of(("g", 1, 0, ()))).alerts, "g", 0)
        self.gives([], evaluator.alerts, "g", 1)


class ApartTest(EvaluatorTest):

    def test_twin(self):
        made = setup_of(("g", 1, 0, (DOWN, record("load", "up"))), lookback=100)
        evaluator = Evaluator(made)
        evaluator.evaluate(8, VIEW, [])
        twin = evaluator.twin()
        self.assertIs(type(twin), Evaluator)
        self.fires(twin, b=8)
        self.refused(NotLater, {}, twin.evaluate, 8, VIEW, [])
        twin.evaluate(9, VIEW, [])
        self.fires(twin, a=9, b=8)
        self.fires(evaluator, b=8)
        other = twin.twin()
        self.assertEqual(evaluator.evaluate(12, [], []), ([], []))
        self.fires(evaluator)
        self.fires(twin, a=9, b=8)
        self.gives(evaluator.firing(), Evaluator(made).firing)
        self.refused(NotLater, {}, other.evaluate, 9, VIEW, [])
        self.assertEqual(other.evaluate(10, VIEW, []), twin.evaluate(10, VIEW, []))
        self.assertEqual(other.firing(), twin.firing())

    def test_two_evaluators_of_one_setup(self):
        made = setup_of(("g", 1, 0, (DOWN,)), lookback=100)
        before = repr(vars(made))
        one, other = Evaluator(made), Evaluator(made)
        one.evaluate(9, VIEW, [])
        self.fires(other)
        self.evaluated(other, 3, VIEW, [])
        self.assertEqual(repr(vars(made)), before)


class RulesTest(WatchTest):

    SETUP = setup_of(("g", 1, 0, (DOWN,)), lookback=100)

    def test_changes(self):
        a, b = alerts("down", "a", "b")
        changes = [(0, [b], []), (2, [], [b]), (3, [a], []), (6, [], [a]), (8, [b], []), (9, [a], [])]
        self.gives(changes, tested, self.SETUP, VIEW, 0, 20)
        self.gives(changes[:3], tested, self.SETUP, VIEW, 0, 5)
        self.gives([(4, [a], [])] + changes[3:5], tested, self.SETUP, VIEW, 4, 8)

    def test_begin_and_end_at_the_same_time(self):
        view = view_of([of("up", 1, 0, job="a"), of("up", 1, 0, job="c"), of("up", 2, 1, job="a"), of("up", 2, 1, job="c"),
                        of("up", 2, 0, job="b"), of("up", 2, 0, job="d")])
        self.gives([(1, alerts("down", "a", "c"), []), (2, alerts("down", "b", "d"), alerts("down", "a", "c"))],
                   tested, self.SETUP, view, 0, 4)

    def test_one_time_and_none(self):
        a, b = alerts("down", "a", "b")
        self.gives([(9, [a, b], [])], tested, self.SETUP, VIEW, 9, 9)
        self.gives([], tested, self.SETUP, VIEW, 9, 8)
        self.gives([], tested, self.SETUP, VIEW, 9, 0)
        self.gives([], tested, self.SETUP, [], 0, 10)

    def test_number_of_times(self):
        made = setup_of(("g", 1, 0, (DOWN,)), lookback=1)
        down = alerts("down", "a")
        view = [of("up", 207, 0, job="a")]
        self.gives([(207, down, [])], tested, made, view, 7, 207)
        self.gives([(207, down, [])], tested, made, view, 8, 207)
        self.refused(TooManyTimes, {}, tested, made, view, 7, 208)
        self.refused(TooManyTimes, {}, tested, made, view, 0, 10000)
        self.refused(TooManyTimes, {}, tested, setup_of(), [], 0, 201)
        self.gives([], tested, setup_of(), [], 0, 200)

    def test_groups_that_are_due(self):
        a, b = alerts("down", "a", "b")
        made = setup_of(("g", 4, 1, (DOWN,)), lookback=100)
        self.gives([(1, [b], []), (5, [a], [b]), (9, [b], [])], tested, made, VIEW, 0, 12)
        self.gives([(5, [a], []), (9, [b], [])], tested, made, VIEW, 2, 20)

    def test_recorded_samples_are_seen_at_the_same_time_and_later(self):
        made = setup_of(("g", 2, 0, (record("one", "sum(up)"), alert("now", "one > 0", 0, 0), alert("was", "sum_over(one[9]) > 2", 0, 0))),
                        lookback=1)
        view = [of("up", time, 1) for time in (2, 4, 6)]
        self.gives([(2, [(("alert", "now"),)], []), (6, [(("alert", "was"),)], []), (8, [], [(("alert", "now"),)]),
                    (12, [], [(("alert", "was"),)])], tested, made, view, 0, 20)

    def test_hold_and_keep_go_through_the_times(self):
        made = setup_of(("g", 1, 0, (alert("down", "up == 0", 2, 3),)), lookback=1)
        view = [of("up", time, 0, job="a") for time in (3, 4, 5)]
        self.gives([(5, alerts("down", "a"), []), (8, [], alerts("down", "a"))], tested, made, view, 0, 20)

    def test_alert_that_goes_over_from_one_rule_to_another(self):
        made = setup_of(("g", 1, 0, (alert("down", "one", 0, 0), alert("down", "two", 0, 0))), lookback=1)
        view = view_of([of("one", 3, 1), of("one", 4, 1), of("two", 5, 1)])
        self.gives([(3, [(("alert", "down"),)], []), (6, [], [(("alert", "down"),)])], tested, made, view, 0, 20)

    def test_nothing_is_changed(self):
        before = repr(vars(self.SETUP))
        view = list(VIEW)
        tested(self.SETUP, view, 0, 20)[0][1].clear()
        self.assertEqual(view, VIEW)
        self.assertEqual(repr(vars(self.SETUP)), before)
        self.assertEqual(len(tested(self.SETUP, view, 0, 20)[0][1]), 1)


if __name__ == "__main__":
    unittest.main()
