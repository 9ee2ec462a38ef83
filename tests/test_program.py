"""What the document promises over the whole program: points 1, 2, 6, 14 and 45."""

import importlib
import os
import pathlib
import subprocess
import sys
import unittest

from tests.support import WatchTest
from tests.test_configuration import FULL, LEAST
from watchfloor import errors
from watchfloor.alltimes import cycle
from watchfloor.configuration import read_setup, write_setup
from watchfloor.escalation import policy_gap, worst_delay
from watchfloor.floor import Floor
from watchfloor.gaps import gap, gap_between, least_limit
from watchfloor.journal import journal, replay
from watchfloor.matching import is_name
from watchfloor.pager import Pager
from watchfloor.parsing import parse
from watchfloor.printing import show
from watchfloor.routes import end_of, group_of, way
from watchfloor.scripts import rehearsal
from watchfloor.sure import sure_limit

ROOT = pathlib.Path(__file__).resolve().parent.parent
TEXT = """week 10
person ann 2
person bob 1
schedule first
layer 0 5 ann bob
schedule second
layer 0 1 ann
policy page
ring first 0
ring second 3
pager 2 1 1
window noon
span 3 5
route
group job
wait 1
interval 4
again 9
mute noon
by page
route 0
match job in b
mute
holdback
source job in a
target job in b
rules main 1 0
alert down 1 2
expr up == 0
record most
expr max(up)
"""


def up(time, value, job):
    """Return a sample of a job."""
    return (("job", job), ("metric", "up")), time, value


def run_floor():
    """Return all that a floor tells in a history with every sort of deed."""
    floor = Floor(read_setup(TEXT))
    told = []
    for time in range(30):
        told.append(floor.take([up(time, time // 6 % 2, "a"), up(time, time // 4 % 2, "b")]))
        told.append(floor.tick(["main"] if time % 7 == 3 else [], [time % 2], [("bob", 1)] if time % 3 else []))
        if time % 10 == 9:
            told.extend([floor.sync(), floor.seal(), floor.compact(), floor.retain(time - 15), floor.crash()])
        if time == 8:
            told.append(floor.acknowledge(0, "ann"))
    floor.silence([("job", ("a",), True)], 30, 40)
    floor.stand_in("first", 30, 40, "ann")
    told.extend([floor.view(), floor.firing(), floor.pager(), floor.deeds(), journal(floor)])
    return told


def analyse():
    """Return what the analysis tells about two alerts."""
    made = read_setup(TEXT)
    told = []
    for job in ("a", "b"):
        labels = (("alert", "down"), ("job", job))
        told.extend([sure_limit(made, labels, 0), least_limit(made, labels, 0, 40, 30), gap_between(made, labels, 0, 40, 4)])
        told.append(rehearsal(made, labels, 4, gap_between(made, labels, 0, 40, 4)))
    return told


class TogetherTest(WatchTest):

    def test_the_same_each_time(self):
        """Point 1: no clock, no random numbers, nothing that depends on the order of sets."""
        first = repr((run_floor(), analyse()))
        self.assertEqual(repr((run_floor(), analyse())), first)
        code = "from tests.test_program import analyse, run_floor; print(repr((run_floor(), analyse())))"
        for seed in ("1", "2"):
            around = dict(os.environ, PYTHONHASHSEED=seed)
            found = subprocess.run([sys.executable, "-c", code], cwd=ROOT, env=around, capture_output=True, text=True, check=True)
            self.assertEqual(found.stdout, first + "\n")

    def test_from_samples_to_somebody_who_answers(self):
        """From a text, a sure limit: somebody is reached within it in every history of the floor."""
        made = read_setup(TEXT)
        labels = (("alert", "down"), ("job", "b"))
        limit = sure_limit(made, labels, 0)
        self.assertEqual(limit, 7)
        self.assertIsNone(gap_between(made, labels, 0, 100, limit))
        for begun in range(20):
            floor = Floor(made)
            for time in range(begun + 20):
                floor.take([up(time, 0 if time >= begun else 1, "b")])
                _, _, firing, _, rings = floor.tick([], [1], [("ann", 1), ("bob", 1)])
                if firing:
                    self.assertEqual(firing, [(labels, begun + 1)])
                if (labels, begun + 1) in floor.pager()[4]:
                    break
            self.assertLessEqual(time, begun + 1 + limit)
            self.assertIn((0, "ann", True), rings)
            floor.acknowledge(0, "ann")

    def test_a_gap_that_is_told_happens(self):
        made = read_setup(TEXT)
        labels = (("alert", "down"), ("job", "b"))
        script = gap_between(made, labels, 0, 100, 6)
        self.assertIsNotNone(script)
        pager = Pager(made)
        for firing, workers, channels in rehearsal(made, labels, 6, script):
            pager.tick(firing, workers, channels)
            self.assertNotIn((labels, script[0]), pager.reached())

    def test_text_and_journal_tell_the_whole_floor(self):
        made = read_setup(TEXT)
        floor = Floor(made)
        for time in range(12):
            floor.take([up(time, 0, "a")])
            floor.tick([], [0, 1], [])
        other, _ = replay(read_setup(write_setup(made)), journal(floor))
        self.assertEqual([other.pager(), other.view(), other.deeds()], [floor.pager(), floor.view(), floor.deeds()])


class ListsTest(WatchTest):

    def test_each_list_is_the_callers(self):
        """Point 2: what is returned can be changed, and changes nothing else."""
        made = read_setup(TEXT)
        labels = (("alert", "down"), ("job", "b"))
        before = repr(vars(made))
        floor = Floor(made)
        calls = [
            lambda: way(made.routes, labels), lambda: cycle(10, made.schedules[0]), lambda: gap(made, labels, 3, 5),
            lambda: rehearsal(made, labels, 2, (1, None, ())), lambda: floor.pager(), lambda: floor.deeds(), lambda: floor.view(),
            lambda: worst_delay(made, "page", 0),
        ]
        for call in calls:
            first = call()
            text = repr(first)
            if isinstance(first, list):
                first.clear()
            self.assertEqual(repr(call()), text)
        self.assertEqual(repr(vars(made)), before)

    def test_setups_are_apart_from_what_runs_them(self):
        made = read_setup(TEXT)
        floor, pager = Floor(made), Pager(made)
        for rows in (made.people, made.schedules, made.policies, made.windows, made.routes, made.holdbacks, made.groups):
            rows.clear()
        other = Floor(read_setup(TEXT))
        for time in range(9):
            samples = [up(time, 0, "b")]
            self.assertEqual(floor.take(samples), other.take(samples))
            found = floor.tick([], [0], [("bob", 1)])
            self.assertEqual(found, other.tick([], [0], [("bob", 1)]))
            self.assertEqual(pager.tick([row[0] for row in found[2]], [0], [("bob", 1)]), found[3:])


class RefusalTest(WatchTest):

    def test_all_errors_of_the_later_parts_are_under_one_class(self):
        """Point 6."""
        made = read_setup(TEXT)
        floor, pager = Floor(made), Pager(made)
        far = (("ann", "bob"), 0, 1000, ())
        calls = (
            (errors.InvalidArgument, lambda: pager.tick([(), ()], [0], [])), (errors.TooFewChannels, lambda: pager.stand_in("first", 0, 1, "bob")),
            (errors.NotReached, lambda: floor.acknowledge(0, "ann")), (errors.InvalidArgument, lambda: floor.take([((), -1, 0)])),
            (errors.PeriodTooLong, lambda: cycle(10, ("all", (far, (far[0] * 2, 0, 3, ())), ()))),
            (errors.BadLine, lambda: replay(made, "tick\n")), (errors.BadConfiguration, lambda: read_setup("week\n")),
        )
        before = [floor.pager(), floor.deeds(), pager.plans()]
        for error, call in calls:
            with self.assertRaises(errors.WatchError) as caught:
                call()
            self.assertIs(type(caught.exception), error)
        self.assertEqual([floor.pager(), floor.deeds(), pager.plans()], before)

    def test_the_program_goes_on_after_a_refusal(self):
        floor = Floor(read_setup(TEXT))
        self.refused(errors.InvalidArgument, {"name": "up"}, floor.tick, [], [2], [])
        self.assertEqual(floor.tick([], [0], []), ([], [], [], [], []))
        self.assertEqual(len(floor.deeds()), 1)


class WordsTest(WatchTest):

    WORDS = ("or", "and", "unless", "by", "in", "not", "sum", "min", "max", "count", "increase", "sum_over", "last_over", "metric",
             "week", "route", "expr", "rules", "tick", "take")

    def test_no_word_is_reserved(self):
        """Point 14: each word can be a metric, a label, a person and the name of a rule, from the text to the person who is rung."""
        for word in self.WORDS:
            self.assertTrue(is_name(word))
            label = word if word != "metric" else "job"
            self.assertEqual(show(parse(word + "{" + label + '="x"}')), word + "{" + label + '="x"}')
            text = LEAST.replace("ann", word).replace("page", word).replace("all", word)
            text += "rules %s 1 0\nalert %s 0 0\nexpr sum by (%s) (%s) > 0\n" % (word, word, label, word)
            made = read_setup(text)
            floor = Floor(made)
            floor.take([(tuple(sorted([("metric", word), (label, word)])), 0, 1)])
            alert = tuple(sorted([("alert", word), (label, word)]))
            self.assertEqual(floor.tick([], [0], [])[2:], ([(alert, 0)], [(0, (), 0, ((alert, 0),))], [(0, word, True)]))
            self.assertEqual(replay(made, journal(floor))[0].pager(), floor.pager())


class RoutesTest(WatchTest):

    def test_routes_of_a_setup_from_its_text_to_its_pages(self):
        """Point 45: the root without a parent and matchers, and routes under earlier ones, with any number of matchers."""
        made = read_setup(FULL)
        self.assertEqual(made.routes[0][:2], (None, ()))
        for number, (parent, matchers, settings) in enumerate(made.routes):
            self.assertTrue(number == 0 or parent < number)
            self.assertEqual([type(part) for part in (matchers,) + settings], [tuple, tuple, int, int, int, tuple, str])
        made = read_setup(TEXT)
        for job, number in (("a", 0), ("b", 1)):
            labels = (("alert", "x"), ("job", job))
            self.assertEqual(end_of(made.routes, labels), number)
            pager = Pager(made)
            pager.tick([labels], [0], [])
            pages = pager.tick([labels], [0], [])[0]
            self.assertEqual(pages, [group_of(made.routes, labels) + (0, ((labels, 0),))])
            self.assertEqual(pages[0][:2], (number, (("job", job),)))

    def test_policy_of_a_route(self):
        made = read_setup(TEXT)
        self.assertIsNone(policy_gap(made, "page", 0))
        self.assertEqual(worst_delay(made, "page", 0), (3, 5))


class ModulesTest(WatchTest):

    def test_every_module_can_be_used_alone(self):
        for path in sorted((ROOT / "watchfloor").glob("*.py")):
            name = "watchfloor" if path.stem == "__init__" else "watchfloor." + path.stem
            self.assertTrue(importlib.import_module(name).__doc__, name)


if __name__ == "__main__":
    unittest.main()
