"""Points 89 to 94: the floor."""

import random
import unittest

from tests.drawn import drawn_down, drawn_setup, drawn_up, one_person, rule
from tests.support import WatchTest, done, small_deed
from watchfloor.errors import InvalidArgument, NotReached, TooFewChannels, TooLate
from watchfloor.evaluating import Evaluator
from watchfloor.floor import Floor
from watchfloor.gaps import gap_between
from watchfloor.opening import crashed
from watchfloor.pager import Pager
from watchfloor.paging import is_held
from watchfloor.parsing import parse
from watchfloor.samples import is_plain, sample_at, view_of
from watchfloor.stores import Store
from watchfloor.timing import greatest_delay, is_due
from watchfloor.values import value_at

DOWN = rule("down", "up == 0", 0, 0)
LOAD = ("record", "load", parse("sum by (job) (up) * 2"), ())
RULES = [("fast", 1, 0, (LOAD, rule("busy", "load > 4", 0, 0))), ("slow", 3, 1, (DOWN,))]


def up(time, value, **labels):
    return tuple(sorted([("metric", "up")] + list(labels.items()))), time, value


def alert(name, **labels):
    return tuple(sorted([("alert", name)] + list(labels.items())))


def state(floor):
    """Return all that a floor tells of its state."""
    return [floor.time(), floor.view(), floor.firing(), floor.pager(), floor.deeds()]


def ruled(groups=RULES, **others):
    """Return a setup with rules and a short lookback."""
    return one_person(groups=groups, lookback=others.pop("lookback", 2), **others)


class TickTest(WatchTest):

    def test_new_floor(self):
        floor = Floor(ruled())
        self.assertEqual(state(floor), [0, [], [], [0, [], [], [], [], []], []])

    def test_evaluation_and_recording(self):
        floor = Floor(ruled())
        self.gives(["kept", "kept"], floor.take, [up(0, 3, job="a"), up(0, 1, job="b")])
        load = [((("job", "a"), ("metric", "load")), 0, 6), ((("job", "b"), ("metric", "load")), 0, 2)]
        busy = alert("busy", job="a")
        found = floor.tick([], [0], [])
        self.assertIs(type(found), tuple)
        self.assertEqual(found, (load, ["kept", "kept"], [(busy, 0)], [(0, (), 0, ((busy, 0),))], [(0, "ann", True)]))
        self.assertEqual([type(part) for part in found], [list] * 5)
        self.gives(view_of(load + [up(0, 3, job="a"), up(0, 1, job="b")]), floor.view)
        self.gives([(busy, 0)], floor.firing)
        self.gives(1, floor.time)
        self.gives([1, [(busy, 0)], [(0, (), 0, ((busy, 0),))], [], [(busy, 0)], []], floor.pager)

    def test_groups_that_are_due_and_missed(self):
        floor = Floor(ruled())
        floor.take([up(time, 0, job="a") for time in range(9)])
        down = alert("down", job="a")
        fired = []
        for time, missed in enumerate(([], ["slow"], [], ["fast"], ["fast", "slow", "fast"], ["slow"], [], [])):
            recorded, _, firing, _, _ = floor.tick(missed, [0], [])
            self.assertEqual(len(recorded), 0 if "fast" in missed else 1, time)
            fired.append(firing)
        self.assertEqual(fired, [[]] * 7 + [[(down, 7)]])

    def test_recorded_samples_that_are_not_plain(self):
        pairs = tuple(("n%d" % number, "v") for number in range(5))
        rules = (("record", "big", parse("up * 1000"), ()), ("record", "wide", parse("up"), (("o", "v"), ("p", "v"))),
                 ("record", "copy", parse("big"), ()))
        floor = Floor(ruled([("fast", 1, 0, rules)]))
        floor.take([up(0, 10 ** 14), up(0, 1, **dict(pairs))])
        recorded, answers, _, _, _ = floor.tick([], [0], [])
        labels = [dict(sample[0])["metric"] for sample in recorded]
        self.assertEqual(labels, ["big", "copy", "wide"])
        self.assertEqual(answers, ["kept"] * 3)
        self.assertTrue(all(is_plain(sample) for sample in recorded))
        self.assertEqual(recorded[2], ((("metric", "wide"), ("o", "v"), ("p", "v")), 0, 10 ** 14))
        self.assertEqual(floor.view(), view_of(recorded + [up(0, 10 ** 14), up(0, 1, **dict(pairs))]))

    def test_recorded_samples_that_are_there_already(self):
        load = (("job", "a"), ("metric", "load")), 0, 77
        floor = Floor(ruled())
        floor.take([load, up(0, 3, job="a"), up(0, 1, job="b")])
        recorded, answers, firing, _, _ = floor.tick([], [0], [])
        self.assertEqual([sample[0][0][1] for sample in recorded], ["b"])
        self.assertEqual(answers, ["kept"])
        self.assertEqual(firing, [(alert("busy", job="a"), 0)])
        self.assertIn(load, floor.view())

    def test_recorded_samples_that_are_late_or_old(self):
        floor = Floor(ruled(lookback=9))
        floor.take([up(0, 3, job="a"), up(7, 3, job="a")])
        self.assertEqual(floor.tick([], [0], [])[:2], ([((("job", "a"), ("metric", "load")), 0, 6)], ["late"]))
        floor.retain(3)
        floor.take([up(7, 1, job="b")])
        self.assertEqual(floor.tick([], [0], [])[:2], ([], []))
        floor = Floor(ruled([("fast", 1, 0, (("record", "one", parse("count_over(up[9]) + 0"), ()),))], store=(20, 10, 2, 0)))
        floor.take([up(0, 3)])
        floor.retain(0)
        self.assertEqual(floor.tick([], [0], [])[1], ["kept"])
        floor.retain(2)
        self.assertEqual(floor.tick([], [0], [])[1], [])
        self.assertEqual(floor.view(), [])

    def test_one_batch_in_the_order_of_a_view(self):
        rules = (("record", "zz", parse("up"), ()), ("record", "aa", parse("up"), ()))
        floor = Floor(ruled([("fast", 1, 0, rules)]))
        floor.take([up(0, 3, job="a"), up(0, 1, job="b")])
        recorded = floor.tick([], [0], [])[0]
        self.assertEqual(recorded, sorted(recorded))
        self.assertEqual([dict(sample[0])["metric"] for sample in recorded], ["aa", "zz", "aa", "zz"])
        self.gives(2, floor.sync)

    def test_looking_back_as_the_setup_says(self):
        for lookback in (1, 2, 5):
            floor = Floor(ruled([("fast", 1, 0, (DOWN,))], lookback=lookback))
            floor.take([up(2, 0)])
            fired = [bool(floor.tick([], [0], [])[2]) for _ in range(10)]
            self.assertEqual(fired, [2 <= time < 2 + lookback for time in range(10)])

    def test_what_the_pager_is_told(self):
        made = ruled([("fast", 1, 0, (DOWN,))], replicas=3, pause=2, down=2, lookback=100)
        floor, pager = Floor(made), Pager(made)
        floor.take([up(0, 0, job="a"), up(3, 0, job="b"), up(5, 1, job="a")])
        for workers, channels in (([1, 2], [("ann", 2)]), ([2], []), ([0], [("ann", 1)]), ([0], []), ([1], []), ([2], []), ([1], [])):
            _, _, firing, pages, rings = floor.tick([], workers, channels)
            found = pager.tick([labels for labels, _ in reversed(firing)], workers, channels)
            self.assertEqual((pages, rings), found)
            self.assertEqual(floor.pager(), [pager.time(), pager.runs(), pager.ledger(), pager.plans(), pager.reached(), pager.held()])

    def test_alert_fires_before_the_pager_has_seen_it(self):
        floor = Floor(ruled([("fast", 2, 0, (rule("down", "up == 0", 2, 3),))], lookback=1))
        floor.take([up(time, 0) for time in range(3)])
        down = alert("down")
        fired = [floor.tick(["fast"] if time == 4 else [], [0], [])[2] for time in range(8)]
        self.assertEqual(fired, [[], [], [(down, 2)], [(down, 2)], [(down, 2)], [(down, 2)], [], []])

    def test_ten_thousand(self):
        floor = Floor(one_person())
        for _ in range(10000):
            floor.tick([], [0], [])
        before = state(floor)
        self.refused(TooLate, {}, floor.tick, [], [0], [])
        self.refused(InvalidArgument, {"name": "missed"}, floor.tick, ["none"], [0], [])
        self.refused(InvalidArgument, {"name": "up"}, floor.tick, [], [], [])
        self.refused(InvalidArgument, {"name": "down"}, floor.tick, [], [0], [("ann", 1)])
        self.assertEqual(state(floor), before)


class StoreTest(WatchTest):

    def test_deeds_of_the_store(self):
        """The store of a floor does what a store does."""
        chance = random.Random(89)
        for _ in range(80):
            settings = chance.choice((0, 3, 20)), chance.choice((1, 2, 5)), chance.choice((2, 3)), chance.choice((0, 1, 2))
            lateness, span, factor, levels = settings
            floor, store = Floor(one_person(store=settings)), Store(lateness, span, factor, levels)
            for time in range(25):
                deed = small_deed(chance, time)
                if deed[0] == "append":
                    self.assertEqual(floor.take(deed[1]), store.append(deed[1]))
                elif chance.random() < 0.2:
                    before = len(store.view())
                    store = crashed(store)
                    self.gives(before - len(store.view()), floor.crash)
                else:
                    self.assertEqual(done(floor, deed), done(store, deed))
                self.assertEqual(floor.view(), store.view())
                self.assertEqual(floor.pager(), [0, [], [], [], [], []])

    def test_deeds_of_the_store_change_neither_alerts_nor_pager(self):
        made = ruled([("fast", 2, 0, (rule("down", "up == 0", 0, 0),))], lookback=100, policies=[("page", (("all", 0), ("all", 9)))])
        floor = Floor(made)
        floor.take([up(0, 0)])
        floor.tick([], [0], [])
        told = [floor.time(), floor.firing(), floor.pager()]
        for deed in (("take", [up(1, 1)]), ("sync",), ("take", [up(30, 1)]), ("crash",), ("seal",), ("compact",), ("retain", 25), ("crash",)):
            done(floor, deed)
            self.assertEqual([floor.time(), floor.firing(), floor.pager()], told, deed)
        self.assertEqual(floor.tick([], [0], [])[2], [(alert("down"), 0)])
        self.assertEqual(floor.tick([], [0], [])[2], [])

    def test_crash(self):
        floor = Floor(one_person())
        self.gives(0, floor.crash)
        floor.take([up(0, 1), up(1, 1)])
        floor.sync()
        self.gives(0, floor.crash)
        floor.take([up(2, 1), up(3, 1), up(4, 1)])
        self.gives(3, floor.crash)
        self.gives([up(0, 1), up(1, 1)], floor.view)
        self.gives(0, floor.crash)
        floor.take([up(2, 1), up(30, 1)])
        self.gives([0], floor.seal)
        self.gives(0, floor.crash)
        self.gives([up(0, 1), up(1, 1), up(2, 1), up(30, 1)], floor.view)

    def test_samples_that_are_not_plain(self):
        floor = Floor(one_person())
        floor.take([up(1, 1)])
        before = state(floor)
        wide = tuple(("n%d" % number, "v") for number in range(7))
        for sample in ((wide, 1, 1), (wide[:2][::-1], 1, 1), ((("N", "v"),), 1, 1), ((("n", ""),), 1, 1), ((), -1, 1), ((), 10001, 1),
                       ((), 1, 10 ** 15), ((), 1, -10 ** 15)):
            for samples in ([sample], [up(2, 1), sample], [sample, up(2, 1)]):
                self.refused(InvalidArgument, {"name": "samples"}, floor.take, samples)
                self.assertEqual(state(floor), before)
        self.gives(["kept", "late"], floor.take, [(wide[:6], 10000, 10 ** 15 - 1), ((), 0, 1 - 10 ** 15)])
        self.gives([], floor.take, [])


class DeedsTest(WatchTest):

    def test_deeds_in_the_order_and_form_of_the_interface(self):
        made = ruled(people=[("ann", 3), ("bob", 0), ("cy", 3)], replicas=2, down=2, policies=[("page", (("all", 0), ("all", 9)))])
        floor = Floor(made)
        samples, missed, workers, matchers = [up(0, 9), up(0, 8)], ["slow", "fast", "slow"], [0, 1], [("job", ("a", ""), False)]
        channels = [("cy", 1), ("bob", 0), ("ann", 2)]
        floor.take(samples)
        floor.tick([], workers, channels)
        floor.tick(missed, [1], [])
        floor.sync()
        floor.seal()
        floor.compact()
        floor.retain(7)
        floor.crash()
        floor.silence(matchers, 3, 5)
        floor.stand_in("all", 2, 4, "cy")
        floor.acknowledge(0, "ann")
        floor.take([])
        for rows in (samples, missed, workers, matchers, channels):
            rows.clear()
        expected = [
            ("take", (up(0, 9), up(0, 8))), ("tick", (), (0, 1), (("ann", 2), ("cy", 1))), ("tick", ("slow", "fast", "slow"), (1,), ()),
            ("sync",), ("seal",), ("compact",), ("retain", 7), ("crash",), ("silence", (("job", ("a", ""), False),), 3, 5),
            ("stand_in", "all", 2, 4, "cy"), ("acknowledge", 0, "ann"), ("take", ()),
        ]
        self.gives(expected, floor.deeds)
        floor.deeds().clear()
        self.gives(expected, floor.deeds)

    def test_returned_lists_are_new(self):
        floor = Floor(ruled(policies=[("page", (("all", 0), ("all", 9)))], replicas=2))
        floor.take([up(0, 3, job="a")])
        parts = list(floor.tick([], [0], []))
        before = state(floor)
        for rows in parts + [floor.view(), floor.firing(), floor.pager()] + [rows for rows in floor.pager() if isinstance(rows, list)]:
            rows.clear()
        self.assertEqual(state(floor), before)
        self.assertTrue(before[3][3])

    def test_setup_stays_and_two_floors_have_nothing_in_common(self):
        made = ruled(people=[("ann", 2), ("bob", 2)])
        text = repr(vars(made))
        one, other = Floor(made), Floor(made)
        one.take([up(0, 3, job="a")])
        one.stand_in("all", 0, 5, "bob")
        one.tick([], [0], [])
        one.silence((), 0, 9)
        self.assertEqual(repr(vars(made)), text)
        self.assertEqual(state(other), state(Floor(made)))
        other.take([up(0, 3, job="a")])
        self.assertEqual(other.tick([], [0], [])[4], [(0, "ann", True)])


class RefusalTest(WatchTest):

    def setUp(self):
        self.floor = Floor(ruled(people=[("ann", 2), ("bob", 1)], replicas=2, down=1, policies=[("page", (("all", 0), ("all", 3)))]))
        self.floor.take([up(0, 3, job="a")])
        self.floor.tick([], [0], [])
        self.before = state(self.floor)

    def refuses(self, error, name, word, *arguments):
        told = {} if name is None else {"name": name}
        self.refused(error, told, getattr(self.floor, word), *arguments)
        self.assertEqual(state(self.floor), self.before)

    def test_tick(self):
        for missed in (["none"], ["fast", "none"], ["none", "fast", "slow"], [""]):
            for workers in ([0], [], [2]):
                for channels in ([], [("ann", 2)]):
                    self.refuses(InvalidArgument, "missed", "tick", missed, workers, channels)
        for workers in ([], [2], [1, 0], [0, 0], [-1, 0]):
            for channels in ([], [("ann", 2)], [("nobody", 0)]):
                self.refuses(InvalidArgument, "up", "tick", ["fast"], workers, channels)
        for channels in ([("ann", 2)], [("ann", -1)], [("nobody", 0)], [("ann", 1), ("bob", 1), ("ann", 1)]):
            self.refuses(InvalidArgument, "down", "tick", [], [0, 1], channels)

    def test_refused_tick_evaluates_nothing(self):
        self.floor.take([up(1, 0, job="a")])
        self.before = state(self.floor)
        self.refuses(InvalidArgument, "down", "tick", [], [0], [("ann", 2)])
        self.refuses(InvalidArgument, "up", "tick", [], [], [])
        self.assertEqual(self.floor.tick([], [0], [])[2], [(alert("down", job="a"), 1)])

    def test_others(self):
        self.refuses(InvalidArgument, "samples", "take", [((), -1, 0)])
        self.refuses(InvalidArgument, "last", "silence", (), 5, 5)
        self.refuses(InvalidArgument, "last", "silence", [], 5, 4)
        self.refuses(InvalidArgument, "schedule", "stand_in", "none", 5, 5, "nobody")
        self.refuses(InvalidArgument, "last", "stand_in", "all", 5, 5, "nobody")
        self.refuses(InvalidArgument, "person", "stand_in", "all", 5, 6, "nobody")
        self.refuses(TooFewChannels, None, "stand_in", "all", 5, 6, "bob")
        self.refuses(NotReached, None, "acknowledge", 0, "bob")
        self.refuses(NotReached, None, "acknowledge", 1, "ann")


class DrawnTest(WatchTest):

    GROUPS = [("fast", 1, 0, (rule("high", "up > 1", 2, 2), ("record", "top", parse("max by (job) (up)"), ()))),
              ("slow", 3, 1, (rule("high", "up > 0", 0, 0), rule("top", "top > 1 unless up == 2", 0, 4)))]

    def test_parts_together(self):
        """A floor is a store, an evaluator and a pager that are run as point 90 says."""
        chance = random.Random(90)
        fired = 0
        for _ in range(60):
            made = drawn_setup(chance, groups=self.GROUPS, store=(chance.choice((0, 5)), 4, 2, 1), lookback=chance.choice((1, 3)))
            lateness, span, factor, levels = made.store
            floor, store, evaluator, pager = Floor(made), Store(lateness, span, factor, levels), Evaluator(made), Pager(made)
            for time in range(40):
                samples = [up(max(0, time + chance.randint(-3, 1)), chance.randint(0, 2), job=chance.choice("ab"))
                           for _ in range(chance.randint(0, 2))]
                self.assertEqual(floor.take(samples), store.append(samples))
                word = chance.choice(("sync", "seal", "compact", "crash", None, None))
                if word == "crash":
                    floor.crash()
                    store = crashed(store)
                elif word is not None:
                    self.assertEqual(done(floor, (word,)), done(store, (word,)))
                missed = [name for name in ("slow", "fast") if chance.random() < 0.1]
                workers, channels = drawn_up(chance, made), drawn_down(chance, made)
                view = store.view()
                _, recorded = evaluator.evaluate(time, view, missed)
                self.assertTrue(all(sample_at(view, labels, at) is None for labels, at, _ in recorded))
                given = [sample for sample in recorded if is_plain(sample)]
                answers, firing = store.append(given), evaluator.firing()
                pages, rings = pager.tick([labels for labels, _ in firing], workers, channels)
                self.assertEqual(floor.tick(missed, workers, channels), (given, answers, firing, pages, rings))
                self.assertEqual(floor.view(), store.view())
                self.assertEqual(floor.firing(), firing)
                fired += len(firing)
        self.assertGreater(fired, 500)


class ConditionTest(WatchTest):

    ALERT = (("alert", "down"), ("job", "a"))

    def test_from_a_condition_to_a_person(self):
        """Point 93."""
        chance = random.Random(93)
        seen = {"reached": 0, "held": 0, "tried": 0}
        while seen["tried"] < 150:
            every, hold, keep = chance.choice((1, 2, 3)), chance.choice((0, 1, 3, 4)), chance.choice((0, 2))
            rules = (rule("down", 'up{job="a"} == 0', hold, keep), rule("other", 'up{job="b"} == 0', 0, 0))
            made = drawn_setup(chance, down=0, groups=[("main", every, chance.randrange(every), rules)], lookback=1,
                               store=(0, chance.choice((2, 10)), 2, 1))
            most, start, limit = chance.choice((0, 0, 1, 2)), chance.randint(0, 12), chance.randint(2, 14)
            begun = start + greatest_delay(every, hold, most)
            if gap_between(made, self.ALERT, 0, begun + 1, limit) is None:
                seen["tried"] += 1
                self.check_history(chance, made, most, start, begun, limit, seen)
        self.assertGreater(seen["reached"], 100)

    def check_history(self, chance, made, most, start, begun, limit, seen):
        """Run a history in which the condition holds from a start on, and check what point 93 promises."""
        floor = Floor(made)
        _, every, offset, _ = made.groups[0]
        in_a_row, firing, held, reached = 0, [], {}, {}
        for time in range(begun + limit + 1):
            value = 0 if time >= start else chance.choice((0, 0, 1))
            floor.take([up(time, value, job="a"), up(time, chance.choice((0, 1)), job="b")])
            # A crash without a sync before it would lose the samples of this time.
            for word in chance.choice(((), (), ("sync",), ("seal",), ("compact",), ("sync", "crash"))):
                done(floor, (word,))
            missed = []
            if is_due(every, offset, time):
                can_miss = start > time or in_a_row < most or time > begun
                missed = ["main"] if can_miss and chance.random() < 0.4 else []
                in_a_row = in_a_row + 1 if missed and time >= start else 0
            before = floor.pager()[4]
            floor.tick(missed, drawn_up(chance, made), drawn_down(chance, made))
            firing.append(self.ALERT in [labels for labels, _ in floor.firing()])
            for run in floor.pager()[1]:
                if is_held(made.holdbacks, floor.pager()[1], before, run[0]):
                    held.setdefault(run, time)
            for run in floor.pager()[4]:
                reached.setdefault(run, time)
        since = len(firing) - next((at for at, fires in enumerate(reversed(firing)) if not fires), len(firing))
        self.assertLessEqual(since, begun)
        run = (self.ALERT, since)
        self.assertIn(run, floor.pager()[1])
        self.assertTrue(reached.get(run, 10 ** 6) <= since + limit or run in held, (vars(made), floor.deeds()))
        seen["reached"] += run in reached
        seen["held"] += run in held

    def test_no_false_alarm(self):
        """Point 94."""
        chance = random.Random(94)
        checked = 0
        for _ in range(150):
            rules = tuple(rule(chance.choice(("down", "low")), text, chance.choice((0, 1, 3)), chance.choice((0, 2, 4)))
                          for text in ("up == 0", 'up{job="a"} < 2', "sum(up) < 3"))
            every = chance.choice((1, 2))
            made = drawn_setup(chance, down=0, groups=[("main", every, 0, rules[:2]), ("rest", 1, 0, rules[2:])], lookback=chance.choice((1, 2)))
            floor = Floor(made)
            evaluations = {number: [] for number in range(3)}
            known = {}
            for time in range(40):
                if chance.random() < 0.8:
                    floor.take([up(time, chance.choice((0, 0, 1, 2)), job=chance.choice("ab"))])
                missed = [name for name in ("main", "rest") if chance.random() < 0.15]
                for number, (_, name, expression, labels, _, _) in enumerate(rules):
                    group = "main" if number < 2 else "rest"
                    if group not in missed and (group == "rest" or time % every == 0):
                        vector = value_at(expression, made.lookback, floor.view(), time)
                        evaluations[number].append((time, [alert(name, **dict(entry)) for entry, _ in vector]))
                floor.tick(missed, drawn_up(chance, made), drawn_down(chance, made))
                for labels, begun in floor.pager()[4]:
                    if (labels, begun) not in known:
                        known[labels, begun] = True
                        self.assertTrue(any(self.is_justified(rules[number], evaluations[number], labels, begun) for number in range(3)),
                                        (labels, begun, floor.deeds()))
                        checked += 1
        self.assertGreater(checked, 150)

    def is_justified(self, told, evaluations, labels, begun):
        """Tell whether a rule has evaluations as point 94 asks for, for a run of an alert that begins at a time."""
        _, _, _, _, hold, keep = told
        rows = [(time, labels in alerts) for time, alerts in evaluations if time <= begun]
        for first, (one, _) in enumerate(rows):
            for last, (other, _) in enumerate(rows):
                if first <= last and one + hold <= other and all(holds for _, holds in rows[first:last + 1]):
                    behind = rows[last + 1:]
                    since = [earlier for earlier, holds in rows if holds and earlier >= other]
                    if all(any(time - keep < earlier <= time for earlier in since) or holds for time, holds in behind):
                        return True
        return False


if __name__ == "__main__":
    unittest.main()
