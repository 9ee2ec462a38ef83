"""Points 97, 98 and 100: the words of lines, and what is wrong with these alone."""

import unittest

from tests.support import WatchTest
from watchfloor.lines import check_words, words_of

# A line of each sort, with the least number of words, and whether there can be any number of further ones.
SOUND = (
    ("week 10", False), ("lookback 5", False), ("store 0 10 2 0", False), ("pager 1 0 0", False), ("person ann 2", False),
    ("schedule all", False), ("policy page", False), ("window night", False), ("holdback", False), ("rules fast 1 0", False),
    ("route 0", False), ("layer 0 5 ann", True), ("span 0 5", False), ("standin ann 3 5", False), ("ring all 0", False),
    ("match job in a", True), ("group", True), ("wait 0", False), ("interval 5", False), ("again 240", False), ("mute", True),
    ("by page", False), ("source job not a", True), ("target job in -", True), ("equal", True), ("record load", False),
    ("alert down 1 2", False), ("label team web", False),
)


class WordsTest(WatchTest):

    def test_blanks(self):
        self.gives(["a", "b", "c"], words_of, "a b c")
        self.gives(["a", "b", "c"], words_of, "  a\t b \t\t c\t ")
        self.gives(["a"], words_of, "a")
        self.gives(["a#", "#b"], words_of, "a# #b")

    def test_lines_that_mean_nothing(self):
        for line in ("", " ", "\t", " \t \t", "#", "# a b", "#a b", "  \t#week 10", "##"):
            self.gives([], words_of, line)

    def test_characters_of_words(self):
        self.gives(['sum{job="a"}', "\r", "A\x0bB", "-"], words_of, ' sum{job="a"} \r A\x0bB -')

    def test_results_are_new(self):
        words_of("a b").clear()
        self.gives(["a", "b"], words_of, "a b")


class CheckTest(WatchTest):

    def check(self, problem, *lines):
        for line in lines:
            self.gives(problem, check_words, line.split(" "))

    def test_sound_lines(self):
        for line, more in SOUND:
            self.check(None, line)
            if more:
                self.check(None, line + " b", line + " b a_1 b")
        self.check(None, "route", "route 12345", "expr x", "expr a b ( 1", "match job not - a -", "group a b c d e f g h", "label a -")

    def test_unknown(self):
        self.check("unknown", "weeks 10", "Week 10", "layers", "", "spam 1", "-", "in", "#", "wee", "hold back", "standin_ ann 3 5", "week10")

    def test_fields(self):
        for line, more in SOUND:
            words = line.split(" ")
            for many in range(1, len(words)):
                if line != "route 0":
                    self.check("fields", " ".join(words[:many]))
            if not more:
                self.check("fields", line + " a", line + " 1 1", line + " A")
        self.check("fields", "expr", "route 0 0", "route a b", "holdback a", "layer", "layer 0 5", "match job in", "source job", "target")

    def test_numbers(self):
        for number in ("0", "1", "10", "10000", "99999", "12345"):
            self.check(None, "week " + number, "route " + number, "pager 1 0 " + number, "layer 0 " + number + " ann", "alert down 0 " + number)
        for number in ("00", "01", "007", "100000", "-1", "+1", "1.0", "x", "1_0", "-", "12a", "\u0661", "\u00b2", "0x1", "000000"):
            self.check("number", "week " + number, "route " + number, "pager 1 0 " + number, "layer 0 " + number + " ann",
                       "alert down 0 " + number, "person ann " + number, "ring all " + number, "span 0 " + number, "wait " + number)

    def test_names(self):
        for name in ("a", "a_1", "a" * 20, "in", "not", "week", "a__"):
            self.check(None, "schedule " + name, "person " + name + " 1", "group " + name, "layer 0 1 a b " + name, "label " + name + " a")
        for name in ("A", "1a", "_a", "a" * 21, "a-b", "-", "a.b", "9", "\u00e4"):
            self.check("name", "schedule " + name, "person " + name + " 1", "group " + name, "group a b " + name, "layer 0 1 a b " + name,
                       "label " + name + " a", "mute a " + name, "by " + name, "match " + name + " in a", "equal " + name)

    def test_values(self):
        for value in ("a", "1", "_", "a" * 20, "-", "1_a"):
            self.check(None, "match job in " + value, "source job not a " + value, "label team " + value)
        for value in ("A", "a" * 21, "a-b", "--", '""', "a.b", "-a"):
            self.check("value", "match job in " + value, "source job not a " + value, "target job in " + value + " a", "label team " + value)

    def test_tests(self):
        for test in ("is", "In", "=", "-", "inn", "notin"):
            self.check("test", "match job " + test + " a", "source job " + test + " a b", "target job " + test + " -")

    def test_which_comes_first(self):
        self.check("unknown", "weeks 1 2 3", "weeks A")
        self.check("fields", "week A B", "person A", "match A is", "layer x y", "label A", "ring A B C")
        self.check("name", "person A x", "match A is A", "label A A", "standin A x y", "alert A x y", "ring A x")
        self.check("number", "layer x y A", "layer 0 y A", "span x y", "standin ann x 5", "alert down x 0", "rules a x 0", "store 0 0 0 00")
        self.check("test", "match job is A", "match job 1 A B")
        self.check("value", "match job in A B", "match job in a B", "label team A")
        self.check("name", "layer 0 1 A b", "layer 0 1 a B")

    def test_words_are_not_changed(self):
        words = ["layer", "0", "1", "ann"]
        check_words(words)
        self.assertEqual(words, ["layer", "0", "1", "ann"])


if __name__ == "__main__":
    unittest.main()
