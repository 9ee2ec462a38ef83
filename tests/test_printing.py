"""Points 16 and 17: the normal form of expressions."""

import itertools
import random
import unittest

from tests.support import LEVELS, RANGE_WORDS, SIGNS, WatchTest, random_number, random_vector
from watchfloor.errors import BadExpression
from watchfloor.expressions import kind_of
from watchfloor.parsing import parse
from watchfloor.printing import show

A, B, C = ("latest", "a", ()), ("latest", "b", ()), ("latest", "c", ())
YES, NO = True, False


def binary(sign, left, right):
    return ("binary", sign, left, right)


class PrintingTest(WatchTest):

    def shown(self, expression, text):
        self.gives(text, show, expression)
        self.gives(expression, parse, text)


class OperandsTest(PrintingTest):

    def test_numbers(self):
        self.shown(("number", 0), "0")
        self.shown(("number", 42), "42")
        self.shown(("number", -42), "-42")
        self.shown(("number", 10 ** 15 - 1), "9" * 15)
        self.shown(("number", 1 - 10 ** 15), "-" + "9" * 15)

    def test_selectors(self):
        self.shown(A, "a")
        self.shown(("latest", "a", (("b", ("x",), YES),)), 'a{b="x"}')
        self.shown(("latest", "a", (("b", ("",), YES),)), 'a{b=""}')
        self.shown(("latest", "a", (("b", ("x",), NO),)), 'a{b!="x"}')
        self.shown(("latest", "a", (("b", ("x", "y"), YES),)), 'a{b in ("x", "y")}')
        self.shown(("latest", "a", (("b", ("x", ""), NO),)), 'a{b not in ("x", "")}')
        self.shown(("latest", "a", (("b", ("x", "x"), YES),)), 'a{b in ("x", "x")}')
        self.shown(("latest", "a", (("b", ("f", "e", "d", "c", "b", "a"), NO),)),
                   'a{b not in ("f", "e", "d", "c", "b", "a")}')
        self.shown(("latest", "a", (("c", ("1",), NO), ("b", ("2", "3"), NO), ("b", ("4",), YES))),
                   'a{c!="1", b not in ("2", "3"), b="4"}')

    def test_functions_over_a_range(self):
        for word in RANGE_WORDS:
            self.shown(("over", word, "a", (), 5), word + "(a[5])")
            self.shown(("over", word, "a", (("b", ("x",), YES), ("c", ("y", "z"), YES)), 1000),
                       word + '(a{b="x", c in ("y", "z")}[1000])')

    def test_aggregations(self):
        for word in ("sum", "min", "max", "count"):
            self.shown(("aggregate", word, (), A), word + "(a)")
            self.shown(("aggregate", word, ("x",), A), word + " by (x) (a)")
            self.shown(("aggregate", word, ("y", "x", "y"), A), word + " by (y, x, y) (a)")
        self.shown(("aggregate", "sum", (), ("aggregate", "min", ("x",), A)), "sum(min by (x) (a))")
        self.shown(("aggregate", "sum", ("x",), binary("+", A, ("number", -1))), "sum by (x) (a + -1)")
        self.shown(("aggregate", "sum", (), ("over", "increase", "a", (), 3)), "sum(increase(a[3]))")

    def test_words_with_a_meaning(self):
        self.shown(binary("or", ("latest", "or", ()), ("latest", "by", ())), "or or by")
        self.shown(("latest", "in", (("not", ("x", "y"), NO), ("in", ("in",), YES))), 'in{not not in ("x", "y"), in="in"}')
        self.shown(("aggregate", "sum", ("by",), ("latest", "sum", ())), "sum by (by) (sum)")
        self.shown(binary("-", ("latest", "increase", ()), ("latest", "sum", ())), "increase - sum")


class OperatorsTest(PrintingTest):

    def test_each_sign(self):
        for sign in SIGNS:
            self.shown(binary(sign, A, B), "a " + sign + " b")

    def test_round_brackets_on_both_sides(self):
        for (outer, signs), (inner, others) in itertools.product(enumerate(LEVELS), repeat=2):
            for sign, other in itertools.product(signs, others):
                left = "a %s b %s c" if inner >= outer else "(a %s b) %s c"
                self.shown(binary(sign, binary(other, A, B), C), left % (other, sign))
                right = "a %s b %s c" if inner > outer else "a %s (b %s c)"
                self.shown(binary(sign, A, binary(other, B, C)), right % (sign, other))

    def test_aggregations_and_ranges_have_none(self):
        inner = ("aggregate", "sum", ("x",), A)
        over = ("over", "increase", "a", (), 3)
        for sign in SIGNS:
            self.shown(binary(sign, inner, over), "sum by (x) (a) " + sign + " increase(a[3])")
            self.shown(binary(sign, over, inner), "increase(a[3]) " + sign + " sum by (x) (a)")

    def test_numbers_below_zero_have_none(self):
        minus = ("number", -3)
        for sign in SIGNS[3:]:
            self.shown(binary(sign, minus, A), "-3 " + sign + " a")
            self.shown(binary(sign, A, minus), "a " + sign + " -3")
        self.shown(binary("-", minus, minus), "-3 - -3")

    def test_deeper(self):
        self.shown(binary("*", binary("+", A, B), binary("-", A, binary("-", B, C))), "(a + b) * (a - (b - c))")
        self.shown(binary("or", binary("or", A, B), binary("or", B, C)), "a or b or (b or c)")
        self.shown(binary("<", binary("<", A, B), binary("and", B, binary("*", C, A))), "a < b < (b and c * a)")
        self.shown(binary("and", binary("unless", A, B), binary("unless", B, C)), "a unless b and (b unless c)")
        self.shown(("aggregate", "sum", (), binary("*", A, binary("or", A, B))), "sum(a * (a or b))")


class RandomTest(PrintingTest):

    def expressions(self):
        for seed in range(300):
            chance = random.Random(seed)
            yield random_vector(chance, chance.randint(0, 8), 6)
            yield random_number(chance, chance.randint(0, 8))

    def parsed(self, text):
        """Return the expression of a text, also if it is a longer one than texts can be, or None."""
        if len(text) > 300:
            return None
        try:
            return parse(text)
        except BadExpression:
            return None

    def test_text_of_exactly_this_expression(self):
        short = 0
        for expression in self.expressions():
            self.assertIsNotNone(kind_of(expression))
            text = show(expression)
            if len(text) <= 300:
                short += 1
                self.assertEqual(parse(text), expression)
                self.assertEqual(show(parse(text)), text)
        self.assertGreater(short, 400)

    def test_no_pair_of_round_brackets_can_be_left_out(self):
        for expression in self.expressions():
            text = show(expression)
            if len(text) > 300:
                continue
            begun = []
            for place, character in enumerate(text):
                if character == "(":
                    begun.append(place)
                if character == ")":
                    first = begun.pop()
                    fewer = text[:first] + " " + text[first + 1:place] + " " + text[place + 1:]
                    self.assertNotEqual(self.parsed(fewer), expression, (text, fewer))


if __name__ == "__main__":
    unittest.main()
