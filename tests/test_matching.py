"""Points 3 and 4: names, labels and matchers."""

import unittest

from tests.support import WatchTest
from watchfloor.errors import InvalidArgument
from watchfloor.matching import is_name, is_value, labels_of, matches, matches_all
from watchfloor.matching import only, value_of, with_label, without

LABELS = (("a", "1"), ("job", "web"), ("zone", "x_1"))
BAD_CHARACTERS = "A Z-.\"=!%\n\t\u00e4\u0131\u00b2\u0661"


class NamesTest(WatchTest):

    def test_lengths(self):
        for call in (is_name, is_value):
            self.gives(False, call, "")
            self.gives(True, call, "a")
            self.gives(True, call, "a" * 20)
            self.gives(False, call, "a" * 21)

    def test_every_character_that_is_allowed(self):
        for character in "abcdefghijklmnopqrstuvwxyz0123456789_":
            self.gives(True, is_name, "a" + character)
            self.gives(True, is_value, character)
            self.gives(True, is_value, character * 20)

    def test_first_character(self):
        for character in "abcdefghijklmnopqrstuvwxyz":
            self.gives(True, is_name, character)
        for character in "0123456789_":
            self.gives(False, is_name, character)
            self.gives(False, is_name, character + "a")
            self.gives(True, is_value, character + "a")

    def test_other_characters(self):
        for character in BAD_CHARACTERS:
            for text in (character, "a" + character, "a" + character + "b", character + "a"):
                self.gives(False, is_name, text)
                self.gives(False, is_value, text)


class LabelsOfTest(WatchTest):

    def test_pairs_in_any_order(self):
        self.gives((), labels_of, [])
        self.gives((("a", "1"),), labels_of, [("a", "1")])
        self.gives(LABELS, labels_of, [("zone", "x_1"), ("a", "1"), ("job", "web")])
        self.gives((("a", "2"), ("a1", "1"), ("a_", "0"), ("aa", "3")), labels_of,
                   [("aa", "3"), ("a_", "0"), ("a1", "1"), ("a", "2")])

    def test_more_than_six_labels(self):
        pairs = [("n%d" % k, "v") for k in range(9, -1, -1)]
        self.gives(tuple(pairs[::-1]), labels_of, pairs)

    def test_lengths(self):
        self.gives((("n" * 20, "v" * 20),), labels_of, [("n" * 20, "v" * 20)])
        self.refused(InvalidArgument, {"name": "name"}, labels_of, [("n" * 21, "v")])
        self.refused(InvalidArgument, {"name": "name"}, labels_of, [("", "v")])
        self.refused(InvalidArgument, {"name": "value"}, labels_of, [("n", "v" * 21)])
        self.refused(InvalidArgument, {"name": "value"}, labels_of, [("n", "")])

    def test_first_character(self):
        self.refused(InvalidArgument, {"name": "name"}, labels_of, [("1a", "v")])
        self.refused(InvalidArgument, {"name": "name"}, labels_of, [("_a", "v")])
        self.gives((("a", "_1"),), labels_of, [("a", "_1")])

    def test_name_that_stands_twice(self):
        self.refused(InvalidArgument, {"name": "twice"}, labels_of, [("a", "1"), ("b", "1"), ("a", "2")])
        self.refused(InvalidArgument, {"name": "twice"}, labels_of, [("a", "1"), ("a", "1")])
        self.gives((("a", "1"), ("b", "1")), labels_of, [("b", "1"), ("a", "1")])

    def test_order_within_one_pair(self):
        self.refused(InvalidArgument, {"name": "name"}, labels_of, [("A", "B")])
        self.refused(InvalidArgument, {"name": "value"}, labels_of, [("a", "1"), ("a", "B")])

    def test_first_bad_pair_is_told(self):
        bad = {"name": ("A", "1"), "value": ("b", "B"), "twice": ("a", "2")}
        for first in bad:
            for second in bad:
                self.refused(InvalidArgument, {"name": first}, labels_of, [("a", "1"), bad[first], bad[second]])
        self.refused(InvalidArgument, {"name": "value"}, labels_of, [("z", "Z"), ("a", "1"), ("A", "1")])


class LabelsTest(WatchTest):

    def test_value_of(self):
        self.gives("1", value_of, LABELS, "a")
        self.gives("web", value_of, LABELS, "job")
        self.gives("x_1", value_of, LABELS, "zone")
        self.gives("", value_of, LABELS, "b")
        self.gives("", value_of, LABELS, "web")
        self.gives("", value_of, (), "a")

    def test_with_label_sets_a_value(self):
        self.gives((("a", "1"), ("job", "db"), ("zone", "x_1")), with_label, LABELS, "job", "db")
        self.gives((("a", "1"), ("b", "2"), ("job", "web"), ("zone", "x_1")), with_label, LABELS, "b", "2")
        self.gives(LABELS + (("zz", "2"),), with_label, LABELS, "zz", "2")
        self.gives((("a", "1"),), with_label, (), "a", "1")
        self.gives((("a", "1"), ("b", "2")), with_label, (("b", "2"),), "a", "1")

    def test_with_label_takes_a_name_out(self):
        self.gives((("a", "1"), ("zone", "x_1")), with_label, LABELS, "job", "")
        self.gives(LABELS, with_label, LABELS, "b", "")
        self.gives((), with_label, (("a", "1"),), "a", "")
        self.gives((), with_label, (), "a", "")

    def test_without(self):
        for kind in (list, tuple):
            self.gives((("job", "web"),), without, LABELS, kind(["zone", "b", "a"]))
            self.gives(LABELS, without, LABELS, kind([]))
            self.gives(LABELS, without, LABELS, kind(["b", "web"]))
            self.gives((), without, LABELS, kind(["a", "job", "zone"]))
            self.gives((), without, (), kind(["a"]))

    def test_only(self):
        for kind in (list, tuple):
            self.gives((("a", "1"), ("zone", "x_1")), only, LABELS, kind(["zone", "b", "a", "zone"]))
            self.gives((), only, LABELS, kind([]))
            self.gives((), only, LABELS, kind(["b", "web"]))
            self.gives(LABELS, only, LABELS, kind(["zone", "job", "a"]))
            self.gives((), only, (), kind(["a"]))


class MatchersTest(WatchTest):

    def test_inside(self):
        self.gives(True, matches, ("job", ("web",), True), LABELS)
        self.gives(True, matches, ("job", ("db", "web"), True), LABELS)
        self.gives(False, matches, ("job", ("db",), True), LABELS)
        self.gives(False, matches, ("job", ("we", "webx", ""), True), LABELS)
        self.gives(False, matches, ("b", ("web",), True), LABELS)

    def test_not_inside(self):
        self.gives(False, matches, ("job", ("web",), False), LABELS)
        self.gives(False, matches, ("job", ("db", "web"), False), LABELS)
        self.gives(True, matches, ("job", ("db",), False), LABELS)
        self.gives(True, matches, ("b", ("web",), False), LABELS)

    def test_empty_text_as_a_value(self):
        self.gives(True, matches, ("b", ("",), True), LABELS)
        self.gives(True, matches, ("b", ("x", ""), True), ())
        self.gives(False, matches, ("b", ("",), False), LABELS)
        self.gives(False, matches, ("job", ("",), True), LABELS)
        self.gives(True, matches, ("job", ("",), False), LABELS)
        self.gives(False, matches, ("job", ("", "web"), False), LABELS)

    def test_six_values(self):
        values = ("a", "b", "c", "d", "e", "web")
        self.gives(True, matches, ("job", values, True), LABELS)
        self.gives(False, matches, ("job", values, False), LABELS)

    def test_all_matchers(self):
        yes, also, no = ("job", ("web",), True), ("b", ("",), True), ("a", ("1",), False)
        for kind in (list, tuple):
            self.gives(True, matches_all, kind([]), LABELS)
            self.gives(True, matches_all, kind([]), ())
            self.gives(True, matches_all, kind([yes]), LABELS)
            self.gives(True, matches_all, kind([yes, also]), LABELS)
            self.gives(False, matches_all, kind([no]), LABELS)
            self.gives(False, matches_all, kind([yes, also, no]), LABELS)
            self.gives(False, matches_all, kind([no, yes, also]), LABELS)
            self.gives(False, matches_all, kind([yes, no, also]), LABELS)


if __name__ == "__main__":
    unittest.main()
