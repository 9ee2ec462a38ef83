"""Points 20 and 22: operators and aggregations over numbers and vectors."""

import unittest

from tests.support import WatchTest
from watchfloor.vectors import aggregate, binary

DB, WEB, X = (("job", "db"),), (("job", "web"),), (("zone", "x"),)
LEFT = [((), 3), (DB, 5), (WEB, -2)]
RIGHT = [(DB, 4), (WEB, -2), (X, 9)]
RESULTS = {
    "+": lambda one, other: one + other, "-": lambda one, other: one - other, "*": lambda one, other: one * other,
}
COMPARISONS = {
    "<": lambda one, other: one < other, "<=": lambda one, other: one <= other, ">": lambda one, other: one > other,
    ">=": lambda one, other: one >= other, "==": lambda one, other: one == other, "!=": lambda one, other: one != other,
}
JOINING = ("or", "and", "unless")


class NumbersTest(WatchTest):

    def test_two_numbers(self):
        for sign in RESULTS:
            for one in (0, 3, -4, 10 ** 20):
                for other in (0, 7, -2):
                    self.gives(RESULTS[sign](one, other), binary, sign, one, other)

    def test_a_number_on_each_side_of_arithmetic(self):
        self.gives([((), 13), (DB, 15), (WEB, 8)], binary, "+", LEFT, 10)
        self.gives([((), 13), (DB, 15), (WEB, 8)], binary, "+", 10, LEFT)
        self.gives([((), -7), (DB, -5), (WEB, -12)], binary, "-", LEFT, 10)
        self.gives([((), 7), (DB, 5), (WEB, 12)], binary, "-", 10, LEFT)
        self.gives([((), -9), (DB, -15), (WEB, 6)], binary, "*", LEFT, -3)
        self.gives([((), -9), (DB, -15), (WEB, 6)], binary, "*", -3, LEFT)
        self.gives([((), 0), (DB, 0), (WEB, 0)], binary, "*", LEFT, 0)

    def test_a_number_on_each_side_of_comparisons(self):
        for sign in COMPARISONS:
            for number in (-3, -2, 0, 3, 4, 5, 6):
                self.gives([row for row in LEFT if COMPARISONS[sign](row[1], number)], binary, sign, LEFT, number)
                self.gives([row for row in LEFT if COMPARISONS[sign](number, row[1])], binary, sign, number, LEFT)

    def test_examples_of_comparisons(self):
        self.gives([(WEB, -2)], binary, "<", LEFT, 3)
        self.gives([(DB, 5)], binary, "<", 3, LEFT)
        self.gives([((), 3), (WEB, -2)], binary, "<=", LEFT, 3)
        self.gives([((), 3), (DB, 5)], binary, "<=", 3, LEFT)
        self.gives([(DB, 5)], binary, ">", LEFT, 3)
        self.gives([(WEB, -2)], binary, ">", 3, LEFT)
        self.gives([((), 3), (DB, 5)], binary, ">=", LEFT, 3)
        self.gives([((), 3), (WEB, -2)], binary, ">=", 3, LEFT)
        self.gives([((), 3)], binary, "==", LEFT, 3)
        self.gives([(DB, 5), (WEB, -2)], binary, "!=", 3, LEFT)

    def test_empty_vectors(self):
        for sign in list(RESULTS) + list(COMPARISONS):
            self.gives([], binary, sign, [], 3)
            self.gives([], binary, sign, 3, [])
            self.gives([], binary, sign, [], LEFT)
            self.gives([], binary, sign, LEFT, [])
            self.gives([], binary, sign, [], [])


class VectorsTest(WatchTest):

    def test_arithmetic(self):
        self.gives([(DB, 9), (WEB, -4)], binary, "+", LEFT, RIGHT)
        self.gives([(DB, 1), (WEB, 0)], binary, "-", LEFT, RIGHT)
        self.gives([(DB, -1), (WEB, 0)], binary, "-", RIGHT, LEFT)
        self.gives([(DB, 20), (WEB, 4)], binary, "*", LEFT, RIGHT)
        self.gives([], binary, "+", [(DB, 1)], [(WEB, 1)])
        self.gives([((), 0), (DB, 0), (WEB, 0)], binary, "-", LEFT, LEFT)

    def test_comparisons(self):
        self.gives([], binary, "<", LEFT, RIGHT)
        self.gives([(DB, 4)], binary, "<", RIGHT, LEFT)
        self.gives([(WEB, -2)], binary, "<=", LEFT, RIGHT)
        self.gives([(DB, 4), (WEB, -2)], binary, "<=", RIGHT, LEFT)
        self.gives([(DB, 5)], binary, ">", LEFT, RIGHT)
        self.gives([(DB, 5), (WEB, -2)], binary, ">=", LEFT, RIGHT)
        self.gives([(WEB, -2)], binary, ">=", RIGHT, LEFT)
        self.gives([(WEB, -2)], binary, "==", LEFT, RIGHT)
        self.gives([(DB, 5)], binary, "!=", LEFT, RIGHT)
        self.gives([(DB, 4)], binary, "!=", RIGHT, LEFT)
        for sign in COMPARISONS:
            self.gives([row for row in LEFT if COMPARISONS[sign](0, 0)], binary, sign, LEFT, LEFT)

    def test_joining(self):
        self.gives([((), 3), (DB, 5), (WEB, -2), (X, 9)], binary, "or", LEFT, RIGHT)
        self.gives([((), 3), (DB, 4), (WEB, -2), (X, 9)], binary, "or", RIGHT, LEFT)
        self.gives([(DB, 5), (WEB, -2)], binary, "and", LEFT, RIGHT)
        self.gives([(DB, 4), (WEB, -2)], binary, "and", RIGHT, LEFT)
        self.gives([((), 3)], binary, "unless", LEFT, RIGHT)
        self.gives([(X, 9)], binary, "unless", RIGHT, LEFT)

    def test_joining_with_empty_vectors(self):
        self.gives(LEFT, binary, "or", LEFT, [])
        self.gives(LEFT, binary, "or", [], LEFT)
        self.gives([], binary, "or", [], [])
        self.gives([], binary, "and", LEFT, [])
        self.gives([], binary, "and", [], LEFT)
        self.gives(LEFT, binary, "unless", LEFT, [])
        self.gives([], binary, "unless", [], LEFT)
        self.gives([], binary, "unless", LEFT, LEFT)
        self.gives(LEFT, binary, "and", LEFT, LEFT)

    def test_or_is_ascending(self):
        self.gives([((("a", "1"),), 1), ((("a", "1"), ("b", "1")), 2), ((("a", "2"),), 3), ((("b", "0"),), 4)], binary, "or",
                   [((("a", "1"), ("b", "1")), 2), ((("b", "0"),), 4)], [((("a", "1"),), 1), ((("a", "2"),), 3)])

    def test_results_are_new(self):
        for sign in list(RESULTS) + list(COMPARISONS) + list(JOINING):
            for left, right in ((LEFT, RIGHT), (LEFT, []), ([], RIGHT), (LEFT, LEFT)):
                left, right = list(left), list(right)
                before = repr((left, right))
                binary(sign, left, right).append("x")
                self.assertEqual(repr((left, right)), before)


class AggregateTest(WatchTest):

    VECTOR = [
        ((), 7), ((("a", "1"),), 5), ((("a", "1"), ("b", "1")), -3), ((("a", "1"), ("b", "2"), ("c", "1")), 4),
        ((("a", "2"), ("c", "1")), 6), ((("b", "1"),), 0),
    ]

    def grouped(self, names, *groups):
        """Check each word, for groups given as labels with their values."""
        for word, result in (("sum", sum), ("min", min), ("max", max), ("count", len)):
            self.gives([(labels, result(values)) for labels, values in groups], aggregate, word, names, self.VECTOR)

    def test_no_names(self):
        self.grouped((), ((), [7, 5, -3, 4, 6, 0]))

    def test_some_names(self):
        self.grouped(("a",), ((), [7, 0]), ((("a", "1"),), [5, -3, 4]), ((("a", "2"),), [6]))
        self.grouped(("b",), ((), [7, 5, 6]), ((("b", "1"),), [-3, 0]), ((("b", "2"),), [4]))
        self.grouped(("c", "a", "c"), ((), [7, 0]), ((("a", "1"),), [5, -3]), ((("a", "1"), ("c", "1")), [4]),
                     ((("a", "2"), ("c", "1")), [6]))

    def test_all_names(self):
        self.grouped(("a", "b", "c"), *[(labels, [value]) for labels, value in self.VECTOR])

    def test_unknown_names(self):
        self.grouped(("d",), ((), [7, 5, -3, 4, 6, 0]))
        self.grouped(("d", "a"), ((), [7, 0]), ((("a", "1"),), [5, -3, 4]), ((("a", "2"),), [6]))

    def test_examples(self):
        self.gives([((), 7), ((("a", "1"),), 6), ((("a", "2"),), 6)], aggregate, "sum", ("a",), self.VECTOR)
        self.gives([((), 0), ((("a", "1"),), -3), ((("a", "2"),), 6)], aggregate, "min", ("a",), self.VECTOR)
        self.gives([((), 7), ((("a", "1"),), 5), ((("a", "2"),), 6)], aggregate, "max", ("a",), self.VECTOR)
        self.gives([((), 2), ((("a", "1"),), 3), ((("a", "2"),), 1)], aggregate, "count", ("a",), self.VECTOR)

    def test_order_of_the_labels_that_are_left(self):
        vector = [((("a", "1"), ("b", "2")), 1), ((("a", "2"), ("b", "1")), 2), ((("a", "3"),), 3)]
        self.gives([((), 3), ((("b", "1"),), 2), ((("b", "2"),), 1)], aggregate, "sum", ("b",), vector)

    def test_empty_vector(self):
        for word in ("sum", "min", "max", "count"):
            for names in ((), ("a",)):
                self.gives([], aggregate, word, names, [])


if __name__ == "__main__":
    unittest.main()
