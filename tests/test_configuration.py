"""Points 97 to 103: the texts of setups."""

import random
import unittest

from tests.drawn import drawn_setup, rule
from tests.plain_texts import FORMS, PlainText
from tests.support import WatchTest, random_vector
from watchfloor.configuration import problems_of, read_setup, write_setup
from watchfloor.errors import BadConfiguration
from watchfloor.parsing import parse
from watchfloor.setup import Setup, setup

LEAST = """week 10
person ann 2
schedule all
layer 0 1 ann
policy page
ring all 0
route
by page
"""
FULL = """week 20
lookback 7
store 3 20 4 2
pager 3 4 1
person ann 2
person bob 0
person cy 20
schedule all
layer 0 5 ann bob ann
span 0 10
span 12 20
layer 10000 1000 cy
standin ann 5 9
standin bob 0 10000
schedule empty
policy page
ring all 0
ring empty 1000
ring all 7
policy call
ring empty 3
window night
span 0 5
span 18 20
window noon
span 9 10
route
group job zone
wait 4
interval 9
again 99
mute night noon
by page
route 0
match job in web - x
match zone not a
group job zone
wait 4
interval 9
again 99
mute night noon
by call
route 1
group
wait 0
interval 1
again 1
mute
by page
holdback
source alert in down up
target alert not down -
target job in -
equal job zone
holdback
equal
rules fast 5 2
alert down 3 2
expr up{job="a", zone not in ("x", "")} == 0 and sum by (job) (load) > -5
label severity high
label team web
record load
expr sum(sum_over(hits[7]))
rules slow 1000 999
record a
expr b
label c d
rules none 1 0
"""


def lines(text, *changes):
    """Return a text with lines in the place of those with some numbers; None leaves a line out."""
    rows = text.split("\n")
    for number, line in changes:
        rows[number - 1] = line
    return "\n".join(row for row in rows if row is not None)


class ConfigurationTest(WatchTest):

    def told(self, problems, text):
        """Check the problems of a text, and that it cannot be read if it has some."""
        self.gives(problems, problems_of, text)
        self.assertTrue(all(type(problem) is tuple for problem in problems_of(text)))
        if problems:
            self.refused(BadConfiguration, {"problems": problems}, read_setup, text)
        else:
            self.assertIs(type(read_setup(text)), Setup)

    def parts(self, text, **parts):
        """Check parts of the setup of a text."""
        self.told([], text)
        made = read_setup(text)
        for part, value in parts.items():
            self.assertEqual(getattr(made, part), value, part)
            self.assertEqual(repr(getattr(made, part)), repr(value), part)


class ReadTest(ConfigurationTest):

    def test_as_little_as_possible(self):
        self.parts(LEAST, week=10, people=[("ann", 2)], schedules=[("all", ((("ann",), 0, 1, ()),), ())],
                   policies=[("page", (("all", 0),))], windows=[], routes=[(None, (), ((), 0, 5, 240, (), "page"))], holdbacks=[],
                   groups=[], replicas=1, pause=0, down=0, store=(0, 10, 2, 0), lookback=5)

    def test_everything(self):
        settings = (("job", "zone"), 4, 9, 99, ("night", "noon"))
        self.parts(
            FULL, week=20, people=[("ann", 2), ("bob", 0), ("cy", 20)],
            schedules=[("all", ((("ann", "bob", "ann"), 0, 5, ((0, 10), (12, 20))), (("cy",), 10000, 1000, ())),
                        ((5, 9, "ann"), (0, 10000, "bob"))), ("empty", (), ())],
            policies=[("page", (("all", 0), ("empty", 1000), ("all", 7))), ("call", (("empty", 3),))],
            windows=[("night", ((0, 5), (18, 20))), ("noon", ((9, 10),))],
            routes=[(None, (), settings + ("page",)),
                    (0, (("job", ("web", "", "x"), True), ("zone", ("a",), False)), settings + ("call",)),
                    (1, (), ((), 0, 1, 1, (), "page"))],
            holdbacks=[((("alert", ("down", "up"), True),), (("alert", ("down", ""), False), ("job", ("",), True)), ("job", "zone")),
                       ((), (), ())],
            groups=[("fast", 5, 2, (
                ("alert", "down", parse('up{job="a", zone not in ("x", "")} == 0 and sum by (job) (load) > -5'),
                 (("severity", "high"), ("team", "web")), 3, 2),
                ("record", "load", parse("sum(sum_over(hits[7]))"), ()))),
                ("slow", 1000, 999, (("record", "a", parse("b"), (("c", "d"),)),)), ("none", 1, 0, ())],
            replicas=3, pause=4, down=1, store=(3, 20, 4, 2), lookback=7)

    def test_settings_from_a_parent(self):
        text = LEAST + """window noon
span 0 1
policy call
ring all 1
route 0
route 1
wait 3
group a b
again 50
route 2
interval 7
mute noon
by call
group
route 1
again 9
route 3
"""
        root = ((), 0, 5, 240, (), "page")
        call = ((), 3, 7, 50, ("noon",), "call")
        self.parts(text, routes=[(None, (), root), (0, (), root), (1, (), (("a", "b"), 3, 5, 50, (), "page")), (2, (), call),
                                 (1, (), ((), 0, 5, 9, (), "page")), (3, (), call)])

    def test_settings_of_the_root(self):
        text = lines(LEAST, (7, "route\nwait 9\ngroup a\ninterval 6\nagain 6\nmute noon"), (1, "week 10\nwindow noon\nspan 3 4"))
        self.parts(text + "route 0\n", routes=[(None, (), (("a",), 9, 6, 6, ("noon",), "page")),
                                               (0, (), (("a",), 9, 6, 6, ("noon",), "page"))])

    def test_order_of_lines(self):
        text = """route
policy x
ring s 3
week 5
route 0
match a in b
wait 2
match c in d
holdback
target a in b
equal e
source c in d
schedule s
standin p 3 4
layer 0 1 p
standin q 1 2
span 2 3
layer 7 8 q
span 1 2
person p 1
person q 2
rules r 1 0
record m
label z a
label b c
expr up
label d e
"""
        text = lines(text, (1, "route\nby x"))
        self.parts(
            text, routes=[(None, (), ((), 0, 5, 240, (), "x")),
                          (0, (("a", ("b",), True), ("c", ("d",), True)), ((), 2, 5, 240, (), "x"))],
            schedules=[("s", ((("p",), 0, 1, ((2, 3),)), (("q",), 7, 8, ((1, 2),))), ((3, 4, "p"), (1, 2, "q")))],
            holdbacks=[((("c", ("d",), True),), (("a", ("b",), True),), ("e",))],
            groups=[("r", 1, 0, (("record", "m", parse("up"), (("b", "c"), ("d", "e"), ("z", "a"))),))])

    def test_holdback_without_equal_labels(self):
        self.parts(LEAST + "holdback\nsource a in b\n", holdbacks=[((("a", ("b",), True),), (), ())])
        self.parts(LEAST + "holdback\nequal\n", holdbacks=[((), (), ())])

    def test_loose_texts(self):
        text = "\n\n# a setup\n\t week   10\t\n" + lines(LEAST, (1, "  # week 11"), (3, "\tschedule\tall"), (4, "layer  0 1\tann "))
        self.assertEqual(vars(read_setup(text)), vars(read_setup(LEAST)))
        self.assertEqual(vars(read_setup(LEAST.rstrip("\n"))), vars(read_setup(LEAST)))
        self.assertEqual(vars(read_setup(LEAST.replace("\n", "\n\n \n#\n"))), vars(read_setup(LEAST)))

    def test_blanks_around_an_expression(self):
        for rest in ("up==0", " \t up  ==\t0 \t", "( (up) == (0) )"):
            text = LEAST + "rules r 1 0\nrecord m\n  expr " + rest + "\n"
            self.parts(text, groups=[("r", 1, 0, (("record", "m", parse("up == 0"), ()),))])

    def test_words_that_mean_something_elsewhere(self):
        text = LEAST + "rules week 1 0\nrecord sum\nexpr sum(by) unless in\nlabel by in\nroute 0\nmatch in in in not - week\nmatch not not not\n"
        self.parts(text, groups=[("week", 1, 0, (("record", "sum", parse("sum(by) unless in"), (("by", "in"),)),))],
                   routes=[(None, (), ((), 0, 5, 240, (), "page")),
                           (0, (("in", ("in", "not", "", "week"), True), ("not", ("not",), False)), ((), 0, 5, 240, (), "page"))])

    def test_setups_of_one_text_have_nothing_in_common(self):
        read_setup(FULL).people.clear()
        self.assertEqual(len(read_setup(FULL).people), 3)
        problems_of("x").clear()
        self.told([(0, "missing"), (0, "missing"), (1, "unknown")], "x")


class ProblemTest(ConfigurationTest):

    def test_unknown(self):
        self.told([(9, "unknown")], LEAST + "spam 1 2\n")
        self.told([(9, "unknown"), (10, "unknown")], LEAST + "Week 10\nwait: 3\n")
        self.told([(9, "unknown")], LEAST + "rooute\nwait 5\n")

    def test_place(self):
        for line in ("layer 0 1 ann", "span 0 5", "standin ann 1 2", "ring all 0", "source a in b", "target a in b", "equal a",
                     "record m", "alert m 0 0", "label a b", "expr up"):
            self.told([(9, "place")], LEAST + line + "\n")
            self.told([(1, "place")], line + "\n" + LEAST)
        for line in ("match a in b", "group a", "wait 1", "interval 5", "again 5", "mute", "by page"):
            self.told([(2, "place")], lines(LEAST, (1, "week 10\n" + line)))
            self.told([(3, "place")], lines(LEAST, (2, "person ann 2\n" + line)))
            self.told([(10, "place")], LEAST + "holdback\n" + line + "\n")

    def test_place_comes_before_other_problems(self):
        self.told([(1, "place"), (2, "place"), (3, "place")], "wait\nexpr\nlabel A\n" + LEAST)
        self.told([(9, "place"), (10, "place")], LEAST + "layer x\nspan 1 2 3\n")

    def test_span_without_a_layer(self):
        self.told([(4, "place")], lines(LEAST, (3, "schedule all\nspan 0 5")))
        self.told([(4, "place"), (5, "place")], lines(LEAST, (3, "schedule all\nspan x\nspan 0 5")))
        self.told([(11, "place")], LEAST + "schedule other\nstandin ann 1 2\nspan 0 5\n")
        self.told([], LEAST + "schedule other\nlayer 0 1 ann\nstandin ann 1 2\nspan 0 5\n")

    def test_label_and_expr_without_a_rule(self):
        self.told([(10, "place"), (11, "place")], LEAST + "rules r 1 0\nlabel a b\nexpr up\n")
        self.told([(13, "place")], LEAST + "rules r 1 0\nrecord m\nexpr up\nrules s 1 0\nexpr up\n")

    def test_fields_and_sorts(self):
        for line, problem in (("week", "fields"), ("week 1 2", "fields"), ("week x", "number"), ("week 010", "number")):
            self.told([(1, problem)], lines(LEAST, (1, line)))
        for line, problem in (("person ann", "fields"), ("person Ann 2", "name"), ("person ann two", "number")):
            self.told([(2, problem)], lines(LEAST, (2, line)))
        for line, problem in (("match a", "fields"), ("match a in", "fields"), ("match A in b", "name"), ("match a is b", "test"),
                              ("match a in B", "value"), ("group A", "name"), ("wait", "fields"), ("wait 1 2", "fields"), ("mute 1", "name")):
            self.told([(8, problem)], lines(LEAST, (7, "route\n" + line)))

    def test_expression(self):
        for rest, problem in (("", "fields"), (" \t", "fields"), (" up ==", "expression"), (" 5", "expression"), (" 1 + 2", "expression"),
                              (" up and 5", "expression"), (" up # down", "expression"), (" Up", "expression"), (" up[5]", "expression"),
                              (" " + "a or " * 59 + "a or b", "expression"), (" " + "a + 1 " * 100, "expression")):
            self.told([(11, problem)], LEAST + "rules r 1 0\nrecord m\nexpr" + rest + "\n")

    def test_twice(self):
        self.told([(9, "twice"), (10, "twice")], LEAST + "week 10\nweek 11\n")
        self.told([(11, "twice"), (13, "twice"), (15, "twice")],
                  LEAST + "lookback 5\nstore 0 10 2 0\nlookback 5\npager 1 0 0\nstore 0 10 2 0\n# none\npager 1 0 0\n")
        for line in ("group", "group a", "wait 1", "interval 5", "again 5", "mute", "by page"):
            self.told([(11, "twice"), (12, "twice")], LEAST + "route 0\n" + (line + "\n") * 3)
            self.told([], LEAST + ("route 0\n" + line + "\n") * 3)
        self.told([(11, "twice")], LEAST + "holdback\nequal\nequal a\n")
        self.told([], LEAST + "holdback\nequal\nholdback\nequal a\n")

    def test_twice_by_lines_with_problems(self):
        self.told([(1, "fields"), (2, "twice")], lines(LEAST, (1, "week\nweek 10")))
        self.told([(1, "number"), (2, "twice"), (3, "number")], lines(LEAST, (1, "week x\nweek 10\nweek y")))
        self.told([(10, "number"), (11, "twice")], LEAST + "route 0\nwait x\nwait 1\n")
        self.told([(11, "number")], LEAST + "route 0\nwait 1\nwait x\n")

    def test_lines_without_a_place_do_not_count(self):
        self.told([(1, "place")], "wait 1\n" + lines(LEAST, (7, "route\nwait 1")))
        self.told([(10, "place")], LEAST + "rules r 1 0\nexpr up\nrecord m\nexpr up\n")
        self.told([(10, "place")], LEAST + "rules r 1 0\nlabel a b\nrecord m\nexpr up\nlabel a b\n")

    def test_twice_in_a_rule(self):
        head = LEAST + "rules r 1 0\nrecord m\nexpr up\n"
        self.told([(12, "twice")], head + "expr up\n")
        self.told([(11, "expression"), (12, "twice")], lines(head, (11, "expr 5")) + "expr up\n")
        self.told([(12, "expression")], head + "expr 5\n")
        self.told([(13, "twice"), (15, "twice")], head + "label a b\nlabel a b\nlabel b b\nlabel a c\n")
        self.told([(12, "value"), (13, "twice")], head + "label a B\nlabel a b\n")
        self.told([(12, "fields"), (13, "twice")], head + "label a\nlabel a b\n")
        self.told([(12, "fields")], head + "label\nlabel a b\n")
        self.told([(12, "name"), (13, "name")], head + "label A b\nlabel A b\n")
        self.told([], head + "label a b\nrecord m\nexpr up\nlabel a b\nalert m 0 0\nexpr up\nlabel a b\nrules s 1 0\nrecord m\nexpr up\n")

    def test_several_roots(self):
        self.told([(9, "twice"), (9, "missing")], LEAST + "route\n")
        self.told([(9, "twice")], LEAST + "route\nby page\n")
        self.told([(9, "twice"), (11, "twice")], LEAST + "route\nby page\nroute\nby page\n")
        self.told([(9, "fields")], LEAST + "route 0 0\n")
        self.told([(9, "number")], LEAST + "route x\nby page\n")

    def test_missing(self):
        self.told([(0, "missing"), (0, "missing")], "")
        self.told([(0, "missing")], lines(LEAST, (1, "# no week")))
        self.told([(0, "missing"), (8, "place")], lines(LEAST, (7, "# no route")))
        self.told([(7, "missing")], lines(LEAST, (8, "# no policy")))
        self.told([(0, "missing")], lines(LEAST, (7, "route 0\nroute")))
        self.told([(0, "missing"), (7, "fields")], lines(LEAST, (7, "route 0 0")))
        self.told([(0, "missing"), (0, "missing")], "person ann 2\n")
        self.told([(10, "missing"), (11, "missing")], LEAST + "rules r 1 0\nrecord m\nalert m 0 0\nlabel a b\nrules s 1 0\n")
        self.told([(10, "missing")], LEAST + "rules r 1 0\nrecord m\nrules s 1 0\nrecord m\nexpr up\n")

    def test_line_without_what_is_missing_by_a_problem(self):
        self.told([(1, "fields")], lines(LEAST, (1, "week")))
        self.told([(8, "fields")], lines(LEAST, (8, "by")))
        self.told([(11, "expression")], LEAST + "rules r 1 0\nrecord m\nexpr 5\n")
        self.told([(11, "fields")], LEAST + "rules r 1 0\nrecord m\nexpr\n")

    def test_problem_of_a_line_before_what_is_missing(self):
        self.told([(10, "name"), (10, "missing"), (11, "fields"), (11, "missing")], LEAST + "rules r 1 0\nrecord M\nalert m\n")

    def test_heads_layers_and_rules_with_a_problem_have_their_lines(self):
        self.told([(3, "name"), (4, "number")], lines(LEAST, (3, "schedule All"), (4, "layer x 1 ann\nspan 0 5")))
        self.told([(9, "number"), (10, "number")], LEAST + "rules r x 0\nalert m x 0\nexpr up\nlabel a b\n")
        self.told([(9, "number")], LEAST + "route x\nwait 5\n")
        self.told([(9, "fields")], LEAST + "holdback x\nequal a\n")

    def test_several_problems_in_their_order(self):
        text = "person Ann 2\nspam\nwait 1\n" + LEAST + "week 10\nrules r 1 0\nrecord m\n"
        self.told([(1, "name"), (2, "unknown"), (3, "place"), (12, "twice"), (14, "missing")], text)
        self.told([(0, "missing"), (0, "missing"), (1, "unknown"), (2, "place"), (4, "twice")], "spam\nwait 1\npager 1 0 0\npager 1 0 0\n")


class SetupTest(ConfigurationTest):

    def test_each_part(self):
        for change, problem in (
            ((1, "week 0"), (1, "week")), ((1, "week 2001"), (1, "week")), ((2, "person ann 21"), (2, "people")),
            ((2, "person ann 2\nperson bob 2\nperson ann 2"), (4, "people")), ((4, "layer 0 1 bob"), (3, "schedules")),
            ((4, "layer 10001 1 ann"), (3, "schedules")), ((4, "layer 0 0 ann"), (3, "schedules")),
            ((4, "layer 0 1 ann\nspan 0 11"), (3, "schedules")), ((4, "standin ann 5 5"), (3, "schedules")),
            ((4, "schedule all"), (4, "schedules")), ((6, "ring none 0"), (5, "policies")), ((6, "ring all 1001"), (5, "policies")),
            ((6, "# no level"), (5, "policies")), ((8, "by none"), (7, "routes")), ((8, "by page\nmute none"), (7, "routes")),
            ((8, "by page\ninterval 0"), (7, "routes")), ((8, "by page\ninterval 300"), (7, "routes")),
            ((8, "by page\nmatch a in b"), (7, "routes")), ((8, "by page\ngroup " + "z" * 20), (7, "routes")),
            ((8, "by page\nroute 1"), (9, "routes")), ((8, "by page\nroute 0\nroute 7"), (10, "routes")),
            ((8, "by page\nroute 0\nwait 1001"), (9, "routes")), ((8, "by page\nwindow w"), (9, "windows")),
            ((8, "by page\nwindow w\nspan 5 4"), (9, "windows")), ((8, "by page\nholdback\nholdback\nequal " + "z" * 20), (10, "holdbacks")),
            ((8, "by page\npager 0 0 0"), (9, "replicas")), ((8, "by page\npager 6 1001 21"), (9, "replicas")),
            ((8, "by page\npager 5 1001 21"), (9, "pause")), ((8, "by page\npager 5 1000 21"), (9, "down")),
            ((8, "by page\nstore 0 0 2 0"), (9, "store")), ((8, "by page\nlookback 0"), (9, "lookback")),
            ((8, "by page\nlookback 1001"), (9, "lookback")),
        ):
            self.told([problem], lines(LEAST, change))

    def test_rules(self):
        for text in ("rules r 0 0", "rules r 5 5", "rules r 1 0\nrecord m\nexpr up\nlabel metric a", "rules r 1 0\nrecord m\nexpr up\nlabel a -",
                     "rules r 1 0\nalert m 1001 0\nexpr up", "rules r 1 0\nalert m 0 0\nexpr up\nlabel alert a",
                     "rules r 1 0\nrecord m\nexpr up\nlabel a b\nlabel c -\nlabel d e",
                     "rules r 1 0\nrecord m\nexpr up\nlabel " + "z" * 20 + " a"):
            self.told([(9, "groups")], LEAST + text + "\n")
            self.told([(10, "groups")], LEAST + "rules s 1 0\n" + text + "\n")
        self.told([(10, "groups")], LEAST + "rules r 1 0\nrules r 1 0\n")
        self.told([(9, "groups")], LEAST + "rules r 1 0\n" + "record m\nexpr up\n" * 13)

    def test_first_entry_in_the_order_of_the_parts(self):
        text = lines(LEAST, (2, "person ann 21"), (1, "lookback 0\nweek 0"))
        self.told([(2, "week")], text)
        self.told([(3, "people")], text.replace("week 0", "week 1"))
        self.told([(1, "lookback")], text.replace("week 0", "week 1").replace("ann 21", "ann 20"))

    def test_too_many_entries(self):
        self.told([], LEAST + "route 0\n" * 29)
        self.told([(38, "routes")], LEAST + "route 0\n" * 31)
        self.told([(19, "holdbacks")], LEAST + "holdback\n" * 12)

    def test_parts_that_are_not_given(self):
        self.told([(1, "routes")], "route\nby page\nweek 1\n")
        self.told([(1, "policies")], "policy page\nring all 0\nroute\nby page\nweek 1\n")
        self.told([(6, "schedules")], "policy page\nring all 0\nroute\nby page\nweek 1\nschedule all\nlayer 0 1 ann\n")
        self.told([], "policy page\nring all 0\nroute\nby page\nweek 1\nschedule all\n")
        self.told([(5, "routes")], "schedule all\npolicy page\nring all 0\nweek 1\nroute\nby page\nmute noon\n")

    def test_parent_that_is_no_earlier_route(self):
        self.told([(9, "routes")], LEAST + "route 1\nby page\n")
        self.told([(9, "routes")], LEAST + "route 2\nroute 0\n")
        self.told([(2, "people")], lines(LEAST, (2, "person ann 21")) + "route 9\n")


class WriteTest(ConfigurationTest):

    def test_normal_texts(self):
        self.assertEqual(write_setup(read_setup(FULL)), FULL)
        self.assertEqual(write_setup(read_setup(LEAST)), """week 10
lookback 5
store 0 10 2 0
pager 1 0 0
person ann 2
schedule all
layer 0 1 ann
policy page
ring all 0
route
group
wait 0
interval 5
again 240
mute
by page
""")

    def test_as_little_as_possible(self):
        made = setup(week=1, people=[], schedules=[("s", (), ())], policies=[("p", (("s", 0),))],
                     routes=[(None, (), ((), 0, 5, 240, (), "p"))])
        text = write_setup(made)
        self.assertEqual(text, "week 1\nlookback 5\nstore 0 10 2 0\npager 1 0 0\nschedule s\npolicy p\nring s 0\n"
                               "route\ngroup\nwait 0\ninterval 5\nagain 240\nmute\nby p\n")
        self.assertEqual(vars(read_setup(text)), vars(made))

    def test_normal_forms_of_expressions(self):
        text = LEAST + "rules r 1 0\nrecord m\nexpr ((up))==( 1+2)*3\n"
        self.assertIn("\nexpr up == (1 + 2) * 3\n", write_setup(read_setup(text)))

    def test_setup_is_not_changed(self):
        made = read_setup(FULL)
        before = repr(vars(made))
        write_setup(made)
        self.assertEqual(repr(vars(made)), before)

    def test_drawn_setups(self):
        chance = random.Random(103)
        for _ in range(200):
            made = drawn_text_setup(chance)
            text = write_setup(made)
            self.told([], text)
            self.assertEqual(vars(read_setup(text)), vars(made))
            self.assertEqual(write_setup(read_setup(text)), text)
            self.assertTrue(text.endswith("\n"))
            self.assertFalse("  " in text or "\n\n" in text or " \n" in text or "\t" in text)


def drawn_text_setup(chance):
    """Return a setup with rules."""
    groups = []
    for number in range(chance.choice((0, 1, 2))):
        rules = []
        for _ in range(chance.randint(0, 3)):
            labels = tuple(sorted(chance.sample([("team", "web"), ("a", "1"), ("zone", "x")], chance.randint(0, 3))))
            expression = random_vector(chance, 3, 2)
            if chance.random() < 0.5:
                rules.append(("record", "load", expression, labels))
            else:
                rules.append(rule("down", "up", chance.randint(0, 9), chance.randint(0, 9))[:2] + (expression, labels, 3, 0))
        groups.append(("group_%d" % number, 5, number, tuple(rules)))
    return drawn_setup(chance, groups=groups)


class DrawnTest(ConfigurationTest):

    LINES = ["week 5", "route", "route 0", "by page", "wait 1", "group", "group job", "equal job", "holdback", "span 0 1", "layer 0 1 ann",
             "rules extra 1 0", "record m", "alert m 0 0", "label a b", "label a -", "expr up", "expr 5", "standin ann 1 2", "ring first 0",
             "schedule extra", "window extra", "policy extra", "person dan 1", "match job in a", "source a in b", "mute", "lookback 5",
             "store 0 10 2 0", "pager 1 0 0", "# nothing", "", "spam", "interval 5", "again 5", "target a not -"]
    WORDS = ["", "-", "A", "0", "00", "x", "-", "in", "not", "5", "99999", "job", "ann", "x y", "1 2"]

    def test_texts_with_changed_lines(self):
        chance = random.Random(100)
        seen = {}
        for _ in range(1200):
            rows = write_setup(drawn_text_setup(chance)).split("\n")
            for _ in range(chance.randint(1, 4)):
                rows = self.changed(chance, rows)
            text = "\n".join(rows)
            expected = PlainText(text).problems()
            found = problems_of(text)
            if expected:
                self.told(expected, text)
            else:
                self.assertLessEqual(len(found), 1)
                self.assertTrue(all(word not in FORMS or word in ("week", "store", "lookback") for _, word in found), found)
                self.told(found, text)
            for _, word in found:
                seen[word] = seen.get(word, 0) + 1
        for word in ("unknown", "place", "fields", "name", "number", "value", "test", "expression", "twice", "missing", "routes", "groups"):
            self.assertGreater(seen.get(word, 0), 2, seen)

    def changed(self, chance, rows):
        """Return rows with one of them left out, written again, put elsewhere or changed."""
        rows = list(rows)
        # Lines with matchers and labels are few, so that they are chosen more often.
        rare = [place for place, row in enumerate(rows) if row.startswith(("match", "source", "target", "label", "expr"))]
        at = chance.choice(rare) if rare and chance.random() < 0.4 else chance.randrange(len(rows))
        what = chance.choice(("leave", "again", "move", "word", "word", "word", "insert", "insert"))
        if what in ("leave", "move"):
            row = rows.pop(at)
            if what == "move":
                rows.insert(chance.randrange(len(rows) + 1), row)
        elif what == "again":
            rows.insert(chance.randrange(len(rows) + 1), rows[at])
        elif what == "insert":
            rows.insert(at, chance.choice(self.LINES))
        else:
            words = rows[at].split(" ")
            words[chance.randrange(len(words))] = chance.choice(self.WORDS)
            rows[at] = " ".join(words)
        return rows


if __name__ == "__main__":
    unittest.main()
