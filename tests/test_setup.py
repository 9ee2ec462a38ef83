"""Points 9 and 10, with the forms of points 45, 49, 54, 55, 56, 62 and 63: the parts of a setup."""

import unittest

from tests.support import WatchTest
from watchfloor.errors import BadSetup, InvalidArgument
from watchfloor.setup import Setup, channels_of, group_of_rules, policy_of, schedule_of, setup, window_of

RESERVED = "z" * 20
UP = ("latest", "up", (("job", ("web", ""), False),))
MATCHER = ("team", ("db", "web"), True)
SETTINGS = (("job", "zone"), 3, 5, 60, ("night",), "rota")
ROOT = (None, (), SETTINGS)
LAYER = (("ann", "bob"), 10, 7, ((0, 5), (6, 24)))
STANDIN = (3, 9, "cat")
RECORD = ("record", "load", UP, (("kind", "sum"),))
ALERT = ("alert", "down", ("binary", "<", UP, ("number", 1)), (("team", "web"),), 4, 2)


def parts(**changes):
    """Return a sound setup with every part, in new lists, with some parts changed."""
    found = {
        "week": 24,
        "people": [("ann", 2), ("bob", 0), ("cat", 20)],
        "schedules": [("first", (LAYER, (("cat",), 0, 1000, ())), (STANDIN,)), ("second", (), ())],
        "policies": [("rota", (("first", 0), ("second", 10))), ("late", (("second", 1000),))],
        "windows": [("night", ((0, 6), (22, 24))), ("noon", ((12, 13),))],
        "routes": [ROOT, (0, (MATCHER,), SETTINGS), (1, (), ((), 0, 1, 1, (), "late"))],
        "holdbacks": [((MATCHER,), (("alert", ("down",), False),), ("job",)), ((), (), ())],
        "groups": [("fast", 5, 2, (RECORD, ALERT)), ("slow", 60, 0, ())],
        "replicas": 3,
        "pause": 4,
        "down": 1,
        "store": (2, 20, 3, 1),
        "lookback": 9,
    }
    found.update(changes)
    return found


def named(many):
    return tuple(["n%d" % number for number in range(many)])


class SetupTest(WatchTest):

    def sound(self, **changes):
        made = setup(**parts(**changes))
        for part in changes:
            self.assertEqual(getattr(made, part), changes[part], part)

    def broken(self, part, place, **changes):
        self.refused(BadSetup, {"part": part, "place": place}, setup, **parts(**changes))

    def entry(self, part, good, *bad):
        """Check good entries, and bad ones first, in the middle and last in the list of a part.

        Each entry needs a name that the list does not have.
        """
        there = parts()[part]
        for entry in good:
            self.sound(**{part: there + [entry]})
            self.sound(**{part: [entry] + there})
        for entry in bad:
            for place in range(len(there) + 1):
                self.broken(part, place, **{part: there[:place] + [entry] + there[place:]})
            self.broken(part, len(there), **{part: there + [entry, entry]})


class SoundTest(SetupTest):

    def test_every_part(self):
        made = setup(**parts())
        self.assertIs(type(made), Setup)
        for part, value in parts().items():
            self.assertEqual(getattr(made, part), value, part)

    def test_parts_that_are_not_given(self):
        given = {part: parts()[part] for part in ("week", "people", "schedules", "policies")}
        made = setup(routes=[(None, (), ((), 0, 5, 240, (), "rota"))], **given)
        self.assertEqual(made.windows, [])
        self.assertEqual(made.holdbacks, [])
        self.assertEqual(made.groups, [])
        self.assertEqual(made.replicas, 1)
        self.assertEqual(made.pause, 0)
        self.assertEqual(made.down, 0)
        self.assertEqual(made.store, (0, 10, 2, 0))
        self.assertEqual(made.lookback, 5)
        for part in ("windows", "holdbacks", "groups"):
            self.assertIs(type(getattr(made, part)), list)

    def test_lists_are_new(self):
        for kind in (list, tuple):
            given = {part: kind(value) if isinstance(value, list) else value for part, value in parts().items()}
            before = repr(given)
            made = setup(**given)
            for part, value in parts().items():
                self.assertEqual(getattr(made, part), value, part)
                self.assertIs(type(getattr(made, part)), type(value), part)
                if isinstance(value, list):
                    getattr(made, part).clear()
            self.assertEqual(repr(given), before)

    def test_two_setups_of_the_same_lists_share_none(self):
        given = parts()
        one, other = setup(**given), setup(**given)
        for part, value in parts().items():
            if isinstance(value, list):
                given[part].clear()
                getattr(one, part).clear()
            self.assertEqual(getattr(other, part), value, part)

    def test_as_little_as_possible(self):
        made = setup(week=1, people=[], schedules=[("s", (), ())], policies=[("p", (("s", 0),))],
                     routes=[(None, (), ((), 0, 1, 1, (), "p"))])
        self.assertEqual(made.people, [])

    def test_all_at_their_upper_bounds(self):
        people = [(name, 20) for name in named(40)]
        layer = (named(10), 10000, 1000, ((0, 2000), (1999, 2000)))
        standins = ((0, 10000, "n39"),) * 20
        matchers = (("a" * 20, ("v" * 20, "", "_", "0", "v", "v"), False),) * 6
        settings = (named(6), 1000, 1000, 1000, ("w0", "w1", "w2", "w3", "w4", "w4"), "p")
        labels = tuple([(name, "v" * 20) for name in named(6)])
        rule = ("alert", "a" * 20, UP, labels, 1000, 1000)
        self.sound(
            week=2000, people=people, schedules=[("s", (layer,) * 6, standins)], policies=[("p", (("s", 1000),) * 6)],
            windows=[("w%d" % k, ((0, 2000),) * 8) for k in range(9)],
            routes=[(None, (), settings)] + [(k, matchers, settings) for k in range(29)],
            holdbacks=[(matchers, matchers, named(6))] * 10, groups=[("g", 1000, 999, (rule,) * 12)],
            replicas=5, pause=1000, down=20, store=(1000, 1000, 10, 3), lookback=1000,
        )


class NumbersTest(SetupTest):

    def test_whole_numbers(self):
        for part, least, greatest in (("replicas", 1, 5), ("pause", 0, 1000), ("down", 0, 20), ("lookback", 1, 1000)):
            for value in (least, greatest):
                self.sound(**{part: value})
            for value in (-1, least - 1, greatest + 1):
                self.broken(part, 0, **{part: value})

    def test_week(self):
        self.sound(week=2000)
        given = {"schedules": [("s", (), ())], "policies": [("p", (("s", 0),))], "windows": [], "holdbacks": [],
                 "routes": [(None, (), ((), 0, 1, 1, (), "p"))], "groups": []}
        self.sound(week=1, **given)
        self.broken("week", 0, week=0, **given)
        self.broken("week", 0, week=-7, **given)
        self.broken("week", 0, week=2001, **given)

    def test_store(self):
        sound = (2, 20, 3, 1)
        for at, least, greatest in ((0, 0, 1000), (1, 1, 1000), (2, 2, 10), (3, 0, 3)):
            for value in (least, greatest):
                self.sound(store=sound[:at] + (value,) + sound[at + 1:])
            for value in (least - 1, greatest + 1):
                self.broken("store", 0, store=sound[:at] + (value,) + sound[at + 1:])


class PeopleTest(SetupTest):

    def test_channels(self):
        self.entry("people", [("dan", 0), ("dan", 20)], ("dan", -1), ("dan", 21))

    def test_names(self):
        self.entry("people", [("d" * 20, 1), ("d_1", 1)], ("", 1), ("d" * 21, 1), ("1d", 1), ("_d", 1), ("Dan", 1),
                   ("d-n", 1))

    def test_names_that_stand_twice(self):
        self.broken("people", 3, people=[("ann", 2), ("bob", 0), ("cat", 20), ("ann", 2)])
        self.broken("people", 1, people=[("ann", 2), ("ann", 3), ("bob", 0), ("cat", 20), ("cat", 1)])


class SchedulesTest(SetupTest):

    def layers(self, good, *bad):
        for layer in good:
            self.entry("schedules", [("new", (layer,), ()), ("new", (LAYER, layer), ())])
        for layer in bad:
            self.entry("schedules", [], ("new", (layer,), ()), ("new", (LAYER, layer), ()), ("new", (layer, LAYER), ()))

    def test_names(self):
        self.entry("schedules", [("new", (), ())], ("", (), ()), ("n" * 21, (), ()), ("2nd", (), ()), ("N", (), ()))
        self.broken("schedules", 2, schedules=parts()["schedules"] + [("first", (), ())])
        self.broken("schedules", 1, schedules=[("first", (), ()), ("first", (), ()), ("second", (), ())])

    def test_number_of_layers_and_standins(self):
        self.entry("schedules", [("new", (LAYER,) * 6, (STANDIN,) * 20)], ("new", (LAYER,) * 7, ()),
                   ("new", (), (STANDIN,) * 21))

    def test_members(self):
        self.layers([(("ann",), 0, 1, ()), (("ann", "bob", "ann", "cat", "cat") * 2, 0, 1, ())],
                    ((), 0, 1, ()), (("ann",) * 11, 0, 1, ()), (("dan",), 0, 1, ()), (("ann", "first"), 0, 1, ()),
                    (("dan", "ann"), 0, 1, ()))

    def test_start_and_shift(self):
        self.layers([(("ann",), 0, 1000, ()), (("ann",), 10000, 1, ())],
                    (("ann",), -1, 1, ()), (("ann",), 10001, 1, ()), (("ann",), 0, 0, ()), (("ann",), 0, 1001, ()),
                    (("ann",), 0, -1, ()))

    def test_spans(self):
        self.layers([(("ann",), 0, 1, ((0, 24),)), (("ann",), 0, 1, ((23, 24), (0, 1), (0, 1)))],
                    (("ann",), 0, 1, ((-1, 4),)), (("ann",), 0, 1, ((4, 4),)), (("ann",), 0, 1, ((5, 4),)),
                    (("ann",), 0, 1, ((0, 25),)), (("ann",), 0, 1, ((0, 1), (24, 25))), (("ann",), 0, 1, ((0, 0), (0, 1))))

    def test_standins(self):
        self.entry("schedules", [("new", (), ((0, 1, "ann"),)), ("new", (), (STANDIN, (9999, 10000, "bob")))],
                   ("new", (), ((4, 4, "ann"),)), ("new", (), ((5, 4, "ann"),)), ("new", (), ((-1, 4, "ann"),)),
                   ("new", (), ((0, 10001, "ann"),)), ("new", (), ((0, 1, "dan"),)), ("new", (), ((0, 1, "first"),)),
                   ("new", (), (STANDIN, (0, 0, "ann"))), ("new", (), ((0, 1, "dan"), STANDIN)))


class PoliciesTest(SetupTest):

    def test_names(self):
        levels = (("first", 0),)
        self.entry("policies", [("new", levels)], ("", levels), ("n" * 21, levels), ("_n", levels), ("N", levels))
        self.broken("policies", 2, policies=parts()["policies"] + [("late", levels)])

    def test_levels(self):
        self.entry("policies", [("new", (("first", 3),) * 6), ("new", (("first", 0), ("second", 1000)))],
                   ("new", ()), ("new", (("first", 3),) * 7), ("new", (("third", 0),)), ("new", (("rota", 0),)),
                   ("new", (("first", -1),)), ("new", (("first", 1001),)), ("new", (("first", 0), ("third", 0))),
                   ("new", (("first", 1001), ("first", 0))))


class WindowsTest(SetupTest):

    def test_names(self):
        self.entry("windows", [("new", ((0, 1),))], ("", ((0, 1),)), ("n" * 21, ((0, 1),)), ("9", ((0, 1),)))
        self.broken("windows", 2, windows=parts()["windows"] + [("noon", ((0, 1),))])

    def test_spans(self):
        self.entry("windows", [("new", ((0, 24),) * 8), ("new", ((23, 24), (0, 1)))],
                   ("new", ()), ("new", ((0, 1),) * 9), ("new", ((-1, 1),)), ("new", ((1, 1),)), ("new", ((2, 1),)),
                   ("new", ((0, 25),)), ("new", ((0, 1), (3, 2))), ("new", ((3, 2), (0, 1))))


class MatchersTest(SetupTest):

    def good(self):
        return [
            (), (("a", ("",), True),), (("a" * 20, ("v" * 20,), False),), (("a", ("", "v", "_", "1", "v", ""), True),),
            (("a", ("v",), True),) * 6, (("z" * 19, ("v",), True),), (("a", (RESERVED,), True),),
        ]

    def bad(self):
        matchers = [
            ("", ("v",), True), ("A", ("v",), True), ("1", ("v",), True), ("a" * 21, ("v",), True), ("a", (), True),
            ("a", ("v",) * 7, True), ("a", ("v" * 21,), True), ("a", ("V",), True), ("a", ("v", "-"), False),
            (RESERVED, ("v",), True), (RESERVED, ("",), False),
        ]
        found = [(("a", ("v",), True),) * 7]
        for matcher in matchers:
            found.extend([(matcher,), (MATCHER, matcher), (matcher, MATCHER)])
        return found

    def test_of_routes(self):
        there = parts()["routes"]
        for matchers in self.good():
            self.sound(routes=there + [(0, matchers, SETTINGS)])
        for matchers in self.bad():
            self.broken("routes", 3, routes=there + [(0, matchers, SETTINGS)])
            self.broken("routes", 1, routes=[ROOT, (0, matchers, SETTINGS), (0, matchers, SETTINGS)])

    def test_of_holdbacks(self):
        there = parts()["holdbacks"]
        for matchers in self.good():
            self.sound(holdbacks=there + [(matchers, (), ()), ((), matchers, ())])
        for matchers in self.bad():
            self.broken("holdbacks", 2, holdbacks=there + [(matchers, (), ())])
            self.broken("holdbacks", 0, holdbacks=[((), matchers, ())] + there)


class RoutesTest(SetupTest):

    def test_number(self):
        self.broken("routes", 0, routes=[])
        self.sound(routes=[ROOT])
        self.sound(routes=[ROOT] + [(0, (), SETTINGS)] * 29)
        self.broken("routes", 30, routes=[ROOT] + [(0, (), SETTINGS)] * 30)
        self.broken("routes", 30, routes=[ROOT] + [(0, (), SETTINGS)] * 40)
        self.broken("routes", 4, routes=[ROOT] + [(0, (), SETTINGS)] * 3 + [(9, (), SETTINGS)] * 40)

    def test_root(self):
        self.broken("routes", 0, routes=[(0, (), SETTINGS)])
        self.broken("routes", 0, routes=[(-1, (), SETTINGS), ROOT])
        self.broken("routes", 0, routes=[(None, (MATCHER,), SETTINGS), (0, (), SETTINGS)])

    def test_parents(self):
        there = parts()["routes"]
        for parent in (0, 1, 2):
            self.sound(routes=there + [(parent, (), SETTINGS)])
        for parent in (None, -1, 3, 4):
            self.broken("routes", 3, routes=there + [(parent, (), SETTINGS), (0, (), SETTINGS)])
        self.broken("routes", 1, routes=[ROOT, (1, (), SETTINGS)])

    def settings(self, at, good, *bad):
        for value in good:
            settings = SETTINGS[:at] + (value,) + SETTINGS[at + 1:]
            self.sound(routes=[(None, (), settings), (0, (), settings)])
        for value in bad:
            settings = SETTINGS[:at] + (value,) + SETTINGS[at + 1:]
            self.broken("routes", 0, routes=[(None, (), settings), (0, (), settings)])
            self.broken("routes", 1, routes=[ROOT, (0, (), settings), ROOT])

    def test_group(self):
        self.settings(0, [(), named(6), ("a", "a"), ("a" * 20,), ("z" * 19,), ("metric",)],
                      named(7), ("",), ("A",), ("a", "1a"), ("a" * 21,), (RESERVED,), ("a", RESERVED), (RESERVED, "a"))

    def test_wait(self):
        self.settings(1, [0, 1000], -1, 1001)

    def test_interval_and_again(self):
        for interval, again, sound in (
            (1, 1, True), (1000, 1000, True), (1, 1000, True), (5, 5, True), (0, 5, False), (-1, 5, False), (5, 4, False),
            (1001, 1001, False), (1, 1001, False), (1000, 999, False), (1, 0, False),
        ):
            settings = SETTINGS[:2] + (interval, again) + SETTINGS[4:]
            if sound:
                self.sound(routes=[ROOT, (0, (), settings)])
            else:
                self.broken("routes", 1, routes=[ROOT, (0, (), settings)])
                self.broken("routes", 0, routes=[(None, (), settings), (0, (), settings)])

    def test_mutes(self):
        self.settings(4, [(), ("noon", "night"), ("noon",) * 6], ("noon",) * 7, ("rota",), ("noon", "dusk"),
                      ("dusk", "noon"), ("",))

    def test_policy(self):
        self.settings(5, ["rota", "late"], "first", "new", "")


class HoldbacksTest(SetupTest):

    def test_number(self):
        self.sound(holdbacks=[((), (), ())] * 10)
        self.broken("holdbacks", 10, holdbacks=[((), (), ())] * 11)
        self.broken("holdbacks", 10, holdbacks=[((), (), ())] * 15)
        self.broken("holdbacks", 7, holdbacks=[((), (), ())] * 7 + [((), (), ("A",))] + [((), (), ())] * 7)

    def test_equal(self):
        there = parts()["holdbacks"]
        for equal in ((), named(6), ("a", "a"), ("a" * 20,), ("z" * 19,), ("alert",)):
            self.sound(holdbacks=there + [((), (), equal)])
        for equal in (named(7), ("",), ("A",), ("1a",), ("a" * 21,), (RESERVED,), ("a", RESERVED)):
            self.broken("holdbacks", 2, holdbacks=there + [((), (), equal)])
            self.broken("holdbacks", 0, holdbacks=[((), (), equal)] + there)


class GroupsTest(SetupTest):

    def rules(self, good, *bad):
        self.entry("groups", [("new", 1, 0, (rule,)) for rule in good] + [("new", 1, 0, tuple(good[:12]))])
        for rule in bad:
            self.entry("groups", [], ("new", 1, 0, (rule,)), ("new", 1, 0, (RECORD, rule)), ("new", 1, 0, (rule, ALERT)))

    def expressions(self, good, *bad):
        for kind, rest in (("record", ()), ("alert", (0, 0))):
            self.rules([(kind, "r", expression, ()) + rest for expression in good],
                       *[(kind, "r", expression, ()) + rest for expression in bad])

    def test_names(self):
        self.entry("groups", [("new", 1, 0, ())], ("", 1, 0, ()), ("n" * 21, 1, 0, ()), ("0", 1, 0, ()), ("N", 1, 0, ()))
        self.broken("groups", 2, groups=parts()["groups"] + [("fast", 1, 0, ())])
        self.broken("groups", 1, groups=[("slow", 2, 0, ())] * 2 + [("slow", 2, 2, ())])

    def test_every_and_offset(self):
        self.entry("groups", [("new", 1, 0, ()), ("new", 1000, 999, ()), ("new", 1000, 0, ()), ("new", 2, 1, ())],
                   ("new", 0, 0, ()), ("new", 1001, 0, ()), ("new", 5, 5, ()), ("new", 5, -1, ()), ("new", 1, 1, ()),
                   ("new", -1, 0, ()), ("new", 1000, 1000, ()))

    def test_number_of_rules(self):
        self.entry("groups", [("new", 1, 0, (RECORD,) * 12)], ("new", 1, 0, (RECORD,) * 13),
                   ("new", 1, 0, (ALERT,) * 13))

    def test_names_of_rules(self):
        self.rules([("record", "r" * 20, UP, ()), ("alert", "r_1", UP, (), 0, 0)],
                   ("record", "", UP, ()), ("record", "r" * 21, UP, ()), ("record", "1", UP, ()),
                   ("alert", "R", UP, (), 0, 0), ("alert", "_r", UP, (), 0, 0))

    def test_labels(self):
        labels = tuple([(name, "v") for name in named(7)])
        good = ((), (("a", "v" * 20),), labels[:6], (("z" * 19, "v"),), (("a", RESERVED),), (("metri", "v"),))
        bad = (
            labels, (("metric", "v"),), (("alert", "v"),), ((RESERVED, "v"),), (("a", ""),), (("A", "v"),), (("a", "V"),),
            (("", "v"),), (("b", "v"), ("a", "v")), (("a", "v"), ("a", "w")), (("a", "v"), ("metric", "v")),
            (("a", "v"), (RESERVED, "v")), (("a", "v" * 21),), (("a" * 21, "v"),), (("alert", "v"), ("b", "v")),
        )
        for kind, rest in (("record", ()), ("alert", (0, 0))):
            self.rules([(kind, "r", UP, labels) + rest for labels in good],
                       *[(kind, "r", UP, labels) + rest for labels in bad])

    def test_words(self):
        self.rules([RECORD, ALERT], ("watch", "r", UP, ()), ("watch", "r", UP, (), 0, 0), ("alert", "r", UP, ()),
                   ("record", "r", UP, (), 0, 0))

    def test_hold_and_keep(self):
        self.rules([("alert", "r", UP, (), 0, 1000), ("alert", "r", UP, (), 1000, 0)],
                   ("alert", "r", UP, (), -1, 0), ("alert", "r", UP, (), 1001, 0), ("alert", "r", UP, (), 0, -1),
                   ("alert", "r", UP, (), 0, 1001))

    def test_kinds_of_expressions(self):
        one = ("number", 1)
        self.expressions([UP, ("binary", "+", UP, one), ("aggregate", "sum", (), UP)],
                         one, ("binary", "+", one, one), ("binary", "<", one, one), ("binary", "and", UP, one),
                         ("aggregate", "sum", (), one), ("binary", "+", UP, ("aggregate", "sum", (), one)))

    def test_numbers_in_expressions(self):
        self.expressions([("binary", "+", UP, ("number", sign * (10 ** 15 - 1))) for sign in (1, -1)],
                         ("binary", "+", UP, ("number", 10 ** 15)), ("binary", "+", ("number", -10 ** 15), UP))

    def test_selectors_in_expressions(self):
        matchers = (("a", ("",), True),) * 6
        bad = [
            ("", ()), ("a" * 21, ()), ("A", ()), ("1", ()), ("a", matchers + matchers[:1]), ("a", (("metric", ("v",), True),)),
            ("a", (("A", ("v",), True),)), ("a", (("a", (), True),)), ("a", (("a", ("v",) * 7, True),)),
            ("a", (("a", ("V",), True),)), ("a", matchers[:2] + (("a", ("v" * 21,), False),)),
        ]
        good = [("a" * 20, ()), ("a", matchers), ("metric", ()), ("a", ((RESERVED, ("v",) * 6, True),))]
        self.expressions([("latest",) + selector for selector in good], *[("latest",) + selector for selector in bad])
        self.expressions([("over", "increase") + selector + (1,) for selector in good],
                         *[("over", "increase") + selector + (1,) for selector in bad])

    def test_ranges_in_expressions(self):
        words = ("sum_over", "min_over", "max_over", "count_over", "last_over", "increase")
        self.expressions([("over", word, "a", (), span) for word in words for span in (1, 1000)],
                         ("over", "sum", "a", (), 5), ("over", "avg_over", "a", (), 5), ("over", "increase", "a", (), 0),
                         ("over", "increase", "a", (), 1001))

    def test_operators_in_expressions(self):
        signs = ("or", "and", "unless", "<", "<=", ">", ">=", "==", "!=", "+", "-", "*")
        self.expressions([("binary", sign, UP, UP) for sign in signs],
                         ("binary", "/", UP, UP), ("binary", "=", UP, UP), ("binary", "not", UP, UP))
        words = ("sum", "min", "max", "count")
        self.expressions([("aggregate", word, names, UP) for word in words for names in ((), named(6), ("a", "a"))],
                         ("aggregate", "avg", (), UP), ("aggregate", "sum_over", (), UP),
                         ("aggregate", "sum", named(7), UP), ("aggregate", "sum", ("A",), UP),
                         ("aggregate", "sum", ("a", ""), UP))

    def test_size_of_expressions(self):
        six = ("latest", "a", ())
        for _ in range(5):
            six = ("binary", "+", six, UP)
        eight = ("aggregate", "sum", (), ("aggregate", "sum", (), ("aggregate", "sum", (), six)))
        self.expressions([six, eight, ("binary", "or", six, ("number", 1))][:2], ("binary", "or", six, UP),
                         ("aggregate", "sum", (), eight), ("binary", "+", eight, ("number", 1)))

    def test_faults_deep_in_expressions(self):
        bad = ("over", "increase", "a", (), 0)
        self.expressions([], ("binary", "+", bad, UP), ("binary", "+", UP, bad), ("aggregate", "sum", (), bad),
                         ("binary", "+", UP, ("aggregate", "sum", (), ("binary", "or", UP, bad))))


class SeveralFaultsTest(SetupTest):

    BROKEN = {
        "week": 0, "people": [("ann", 21)], "schedules": [("first", (), ((0, 0, "ann"),))], "policies": [("rota", ())],
        "windows": [("night", ())], "routes": [(9, (), SETTINGS)], "holdbacks": [((), (), ("A",))],
        "groups": [("fast", 0, 0, ())], "replicas": 0, "pause": -1, "down": -1, "store": (0, 0, 2, 0), "lookback": 0,
    }

    def test_order_of_the_parts(self):
        names = list(parts())
        self.assertEqual(names, list(self.BROKEN))
        for at, part in enumerate(names):
            self.broken(part, 0, **{part: self.BROKEN[part]})
            for other in names[at + 1:]:
                self.broken(part, 0, **{part: self.BROKEN[part], other: self.BROKEN[other]})
            self.broken(part, 0, **{other: self.BROKEN[other] for other in names[at:]})

    def test_last_entry_of_a_part_comes_before_the_next_part(self):
        for part in ("people", "schedules", "policies", "windows", "routes", "holdbacks", "groups"):
            there = parts()[part]
            names = list(parts())
            later = {other: self.BROKEN[other] for other in names[names.index(part) + 1:]}
            self.broken(part, len(there), **{part: there + self.BROKEN[part] + self.BROKEN[part]}, **later)

    def test_names_that_an_earlier_part_lacks(self):
        self.broken("schedules", 0, people=[("ann", 1), ("bob", 1)])
        self.broken("policies", 0, schedules=[("second", (), ())])
        self.broken("policies", 1, schedules=[("first", (), ())], policies=[("rota", (("first", 0),)), ("late", (("x", 1),))])
        self.broken("routes", 0, windows=[("noon", ((0, 1),))])
        self.broken("routes", 2, policies=[("rota", (("first", 0),))])

    def test_spans_that_the_week_is_too_short_for(self):
        self.broken("schedules", 0, week=23)
        self.broken("windows", 0, week=23, schedules=[("first", (), ()), ("second", (), ())])


class LookUpsTest(SetupTest):

    def test_found(self):
        made = setup(**parts())
        given = parts()
        for name, channels in given["people"]:
            self.assertEqual(channels_of(made, name), channels)
        for part, call in (("schedules", schedule_of), ("policies", policy_of), ("windows", window_of),
                           ("groups", group_of_rules)):
            for entry in given[part]:
                self.assertEqual(call(made, entry[0]), entry)
                self.assertIs(type(call(made, entry[0])), tuple)

    def test_not_found(self):
        made = setup(**parts())
        for word, call, other in (("person", channels_of, "first"), ("schedule", schedule_of, "rota"),
                                  ("policy", policy_of, "night"), ("window", window_of, "fast"),
                                  ("group", group_of_rules, "ann")):
            for name in ("", "new", "an", other):
                self.refused(InvalidArgument, {"name": word}, call, made, name)

    def test_not_found_where_there_is_none(self):
        made = setup(week=1, people=[], schedules=[("s", (), ())], policies=[("p", (("s", 0),))],
                     routes=[(None, (), ((), 0, 1, 1, (), "p"))])
        self.refused(InvalidArgument, {"name": "person"}, channels_of, made, "ann")
        self.refused(InvalidArgument, {"name": "window"}, window_of, made, "night")
        self.refused(InvalidArgument, {"name": "group"}, group_of_rules, made, "fast")


if __name__ == "__main__":
    unittest.main()
