"""Points 7 and 8: the kinds, counts and metrics of expressions."""

import itertools
import unittest

from tests.support import WatchTest
from watchfloor.expressions import count_of, kind_of, metrics

ONE = ("number", 1)
LATEST = ("latest", "up", ())
OVER = ("over", "sum_over", "load", (("job", ("web",), True),), 5)
NONE = ("aggregate", "sum", (), ONE)
ARITHMETIC = ("+", "-", "*")
COMPARISONS = ("<", "<=", ">", ">=", "==", "!=")
JOINING = ("or", "and", "unless")


def binary(sign, left, right):
    return ("binary", sign, left, right)


class KindsTest(WatchTest):

    def test_operands(self):
        self.gives("number", kind_of, ONE)
        self.gives("number", kind_of, ("number", 1 - 10 ** 15))
        self.gives("vector", kind_of, LATEST)
        self.gives("vector", kind_of, OVER)
        for word in ("sum_over", "min_over", "max_over", "count_over", "last_over", "increase"):
            self.gives("vector", kind_of, ("over", word, "load", (), 1000))

    def test_arithmetic(self):
        for sign in ARITHMETIC:
            self.gives("number", kind_of, binary(sign, ONE, ONE))
            self.gives("vector", kind_of, binary(sign, ONE, LATEST))
            self.gives("vector", kind_of, binary(sign, OVER, ONE))
            self.gives("vector", kind_of, binary(sign, OVER, LATEST))

    def test_comparisons(self):
        for sign in COMPARISONS:
            self.gives(None, kind_of, binary(sign, ONE, ONE))
            self.gives("vector", kind_of, binary(sign, ONE, LATEST))
            self.gives("vector", kind_of, binary(sign, OVER, ONE))
            self.gives("vector", kind_of, binary(sign, OVER, LATEST))

    def test_joining(self):
        for sign in JOINING:
            self.gives(None, kind_of, binary(sign, ONE, ONE))
            self.gives(None, kind_of, binary(sign, ONE, LATEST))
            self.gives(None, kind_of, binary(sign, OVER, ONE))
            self.gives("vector", kind_of, binary(sign, OVER, LATEST))

    def test_aggregations(self):
        for word in ("sum", "min", "max", "count"):
            self.gives("vector", kind_of, ("aggregate", word, ("a", "b"), LATEST))
            self.gives("vector", kind_of, ("aggregate", word, (), OVER))
            self.gives(None, kind_of, ("aggregate", word, (), ONE))
            self.gives(None, kind_of, ("aggregate", word, (), binary("+", ONE, ONE)))

    def test_parts_without_a_kind(self):
        self.gives(None, kind_of, ("aggregate", "sum", (), NONE))
        for sign in ARITHMETIC + COMPARISONS + JOINING:
            for left, right in ((NONE, ONE), (ONE, NONE), (NONE, LATEST), (LATEST, NONE), (NONE, NONE)):
                self.gives(None, kind_of, binary(sign, left, right))

    def test_deeper_parts(self):
        number = binary("*", ONE, binary("-", ONE, ONE))
        vector = binary("or", LATEST, binary("<", number, ("aggregate", "sum", (), OVER)))
        self.gives("number", kind_of, number)
        self.gives("vector", kind_of, vector)
        self.gives("vector", kind_of, binary("unless", vector, vector))
        self.gives(None, kind_of, binary("unless", vector, number))
        self.gives(None, kind_of, binary("==", number, number))
        self.gives("vector", kind_of, binary("==", number, vector))
        self.gives(None, kind_of, binary("+", vector, binary("<", number, number)))


class CountsTest(WatchTest):

    def test_operands(self):
        self.gives((0, 0), count_of, ONE)
        self.gives((1, 0), count_of, LATEST)
        self.gives((1, 0), count_of, OVER)

    def test_operators(self):
        for left, right in itertools.product((ONE, LATEST, OVER), repeat=2):
            many = (left != ONE) + (right != ONE)
            for sign in ("+", "<", "and"):
                self.gives((many, 1), count_of, binary(sign, left, right))
        self.gives((1, 1), count_of, ("aggregate", "min", ("a",), OVER))
        self.gives((0, 1), count_of, NONE)

    def test_deeper(self):
        wide = binary("or", binary("+", LATEST, OVER), binary("and", NONE, ("aggregate", "max", (), LATEST)))
        self.gives((3, 5), count_of, wide)
        self.gives((6, 11), count_of, binary("*", wide, wide))
        self.gives((3, 6), count_of, ("aggregate", "max", (), wide))

    def test_around_the_limits(self):
        found = LATEST
        for many in range(1, 12):
            found = binary("+", found, LATEST) if many % 2 else binary("+", LATEST, found)
            self.gives((many + 1, many), count_of, found)


class MetricsTest(WatchTest):

    def test_operands(self):
        self.gives([], metrics, ONE)
        self.gives(["up"], metrics, LATEST)
        self.gives(["load"], metrics, OVER)

    def test_each_once_and_ascending(self):
        self.gives(["load", "up"], metrics, binary("+", LATEST, OVER))
        self.gives(["load", "up"], metrics, binary("+", OVER, LATEST))
        self.gives(["up"], metrics, binary("+", LATEST, ("over", "increase", "up", (), 3)))
        self.gives(["load"], metrics, ("aggregate", "sum", ("a",), OVER))
        self.gives([], metrics, NONE)

    def test_deeper(self):
        names = ("z", "b_", "b", "b1", "z", "a")
        found = ONE
        for name in names:
            found = binary("or", ("aggregate", "sum", ("c",), found), ("latest", name, ()))
        self.gives(["a", "b", "b1", "b_", "z"], metrics, found)

    def test_matchers_and_names_are_no_metrics(self):
        self.gives(["up"], metrics, ("aggregate", "sum", ("job",), ("latest", "up", (("a", ("b",), True),))))

    def test_result_is_new(self):
        found = metrics(LATEST)
        found.append("x")
        self.gives(["up"], metrics, LATEST)


if __name__ == "__main__":
    unittest.main()
