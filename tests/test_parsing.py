"""Points 13 to 15: from texts to expressions, and the faults of texts that are none."""

import itertools
import unittest

from tests.support import WatchTest
from watchfloor.errors import BadExpression
from watchfloor.expressions import kind_of
from watchfloor.parsing import parse

RANGE_WORDS = ("sum_over", "min_over", "max_over", "count_over", "last_over", "increase")
AGGREGATE_WORDS = ("sum", "min", "max", "count")
MEANING_WORDS = ("or", "and", "unless", "by", "in", "not")
LEVELS = (("or",), ("and", "unless"), ("<", "<=", ">", ">=", "==", "!="), ("+", "-"), ("*",))
SIGNS = [sign for level in LEVELS for sign in level]
A, B, C = ("latest", "a", ()), ("latest", "b", ()), ("latest", "c", ())


def number(n):
    return ("number", n)


def binary(sign, left, right):
    return ("binary", sign, left, right)


def latest(metric, *matchers):
    return ("latest", metric, matchers)


class ParsingTest(WatchTest):

    def parsed(self, text, expression):
        self.gives(expression, parse, text)

    def faulty(self, fault, place, text):
        self.refused(BadExpression, {"fault": fault, "place": place}, parse, text)


class OperandsTest(ParsingTest):

    def test_numbers(self):
        self.parsed("0", number(0))
        self.parsed("42", number(42))
        self.parsed("007", number(7))
        self.parsed("-42", number(-42))
        self.parsed("- 42", number(-42))
        self.parsed("-0", number(0))
        self.parsed("9" * 15, number(10 ** 15 - 1))
        self.parsed("-" + "9" * 15, number(1 - 10 ** 15))

    def test_round_brackets(self):
        self.parsed("(1)", number(1))
        self.parsed("((a))", A)
        self.parsed("( -1 )", number(-1))

    def test_metrics(self):
        self.parsed("a", A)
        self.parsed("a{}", A)
        self.parsed("a { }", A)
        self.parsed("metric", latest("metric"))
        self.parsed("a" * 20, latest("a" * 20))

    def test_matchers(self):
        self.parsed('a{b="x"}', latest("a", ("b", ("x",), True)))
        self.parsed('a{b=""}', latest("a", ("b", ("",), True)))
        self.parsed('a{b!="x"}', latest("a", ("b", ("x",), False)))
        self.parsed('a{b in ("x")}', latest("a", ("b", ("x",), True)))
        self.parsed('a{b not in ("x")}', latest("a", ("b", ("x",), False)))
        self.parsed('a{b in ("y", "x", "", "y")}', latest("a", ("b", ("y", "x", "", "y"), True)))
        self.parsed('a{b not in ("y","x")}', latest("a", ("b", ("y", "x"), False)))
        self.parsed('a{c="1",b!="2",c in("3")}', latest("a", ("c", ("1",), True), ("b", ("2",), False), ("c", ("3",), True)))
        self.parsed('a{b in("x")}+a{b not in("x")}',
                    binary("+", latest("a", ("b", ("x",), True)), latest("a", ("b", ("x",), False))))

    def test_functions_over_a_range(self):
        for word in RANGE_WORDS:
            self.parsed(word + "(a[5])", ("over", word, "a", (), 5))
            self.parsed(word + ' ( a { b != "x" } [ 5 ] ) ', ("over", word, "a", (("b", ("x",), False),), 5))
            self.parsed(word + '(a{b="",c not in ("x","y")}[1000])',
                        ("over", word, "a", (("b", ("",), True), ("c", ("x", "y"), False)), 1000))
            self.parsed(word + "(a{}[1])", ("over", word, "a", (), 1))

    def test_aggregations(self):
        for word in AGGREGATE_WORDS:
            self.parsed(word + "(a)", ("aggregate", word, (), A))
            self.parsed(word + " by () (a)", ("aggregate", word, (), A))
            self.parsed(word + " by (x) (a)", ("aggregate", word, ("x",), A))
            self.parsed(word + " by(y,x,y)(a)", ("aggregate", word, ("y", "x", "y"), A))
            self.parsed(word + " by (metric) (a + 1)", ("aggregate", word, ("metric",), binary("+", A, number(1))))
            self.parsed(word + "(" + word + "(a)) * 2", binary("*", ("aggregate", word, (), ("aggregate", word, (), A)), number(2)))

    def test_blanks(self):
        for blank in (" ", "\t", "\n", " \n\t "):
            parts = ["sum", "by", "(", "x", ",", "y", ")", "(", "a", "{", "b", "not", "in", "(", '"x"', ",", '"y"', ")",
                     "}", "*", "-", "2", ")", "<=", "increase", "(", "c", "[", "3", "]", ")"]
            expression = binary("<=", ("aggregate", "sum", ("x", "y"), binary(
                "*", latest("a", ("b", ("x", "y"), False)), number(-2))), ("over", "increase", "c", (), 3))
            self.parsed(blank.join(parts), expression)
            self.parsed(blank + blank.join(parts) + blank, expression)
        self.parsed('sum by(x,y)(a{b not in("x","y")}*-2)<=increase(c[3])', expression)


class OperatorsTest(ParsingTest):

    def test_each_operator(self):
        for sign in SIGNS:
            self.parsed("a " + sign + " b", binary(sign, A, B))
        for sign in SIGNS[3:]:
            self.parsed("a" + sign + "b", binary(sign, A, B))
            self.parsed("a" + sign + "-1", binary(sign, A, number(-1)))
            self.parsed("1" + sign + "a", binary(sign, number(1), A))
        self.parsed("(a)or(b)", binary("or", A, B))

    def test_strength_and_order(self):
        for (low, first), (high, second) in itertools.product(enumerate(LEVELS), repeat=2):
            for one, other in itertools.product(first, second):
                text = "a " + one + " b " + other + " c"
                if low < high:
                    self.parsed(text, binary(one, A, binary(other, B, C)))
                else:
                    self.parsed(text, binary(other, binary(one, A, B), C))

    def test_round_brackets_change_the_order(self):
        for one, other in itertools.product(SIGNS, repeat=2):
            self.parsed("a " + one + " (b " + other + " c)", binary(one, A, binary(other, B, C)))
            self.parsed("(a " + one + " b) " + other + " c", binary(other, binary(one, A, B), C))

    def test_long_rows(self):
        self.parsed("a or b and c < 1 + 2 * 3", binary("or", A, binary("and", B, binary(
            "<", C, binary("+", number(1), binary("*", number(2), number(3)))))))
        self.parsed("1 * 2 + 3 < c and b or a", binary("or", binary("and", binary(
            "<", binary("+", binary("*", number(1), number(2)), number(3)), C), B), A))
        self.parsed("1 - 2 - 3 - 4", binary("-", binary("-", binary("-", number(1), number(2)), number(3)), number(4)))
        self.parsed("a or b * c or a", binary("or", binary("or", A, binary("*", B, C)), A))

    def test_minus(self):
        self.parsed("1-1", binary("-", number(1), number(1)))
        self.parsed("1--1", binary("-", number(1), number(-1)))
        self.parsed("-1-1", binary("-", number(-1), number(1)))
        self.parsed("-1*2", binary("*", number(-1), number(2)))
        self.parsed("a -1", binary("-", A, number(1)))
        self.parsed("a - -1 - - 2", binary("-", binary("-", A, number(-1)), number(-2)))
        self.parsed("(-1)", number(-1))


class WordsTest(ParsingTest):
    """Point 14: no word is reserved."""

    def test_as_metrics(self):
        for word in RANGE_WORDS + AGGREGATE_WORDS + MEANING_WORDS + ("metric", "x"):
            one = latest(word)
            self.parsed(word, one)
            self.parsed("(" + word + ")", one)
            self.parsed(word + "{}", one)
            self.parsed(word + '{a="b"}', latest(word, ("a", ("b",), True)))
            for sign in SIGNS:
                self.parsed(word + " " + sign + " " + word, binary(sign, one, one))
            self.parsed("sum(" + word + ")", ("aggregate", "sum", (), one))
            self.parsed("increase(" + word + "[2])", ("over", "increase", word, (), 2))
            self.parsed("increase(" + word + '{a="b"}[2])', ("over", "increase", word, (("a", ("b",), True),), 2))

    def test_as_labels_names_and_values(self):
        for word in RANGE_WORDS + AGGREGATE_WORDS + MEANING_WORDS:
            for test, inside in (('="x"', True), (' !="x"', False), (' in ("x")', True), (' not in ("x")', False)):
                self.parsed("a{" + word + test + "}", latest("a", (word, ("x",), inside)))
            self.parsed('a{b="' + word + '"}', latest("a", ("b", (word,), True)))
            self.parsed("sum by (" + word + ", " + word + ") (a)", ("aggregate", "sum", (word, word), A))

    def test_metric_is_no_label_but_a_name_and_a_value(self):
        self.faulty("token", 2, 'a{metric="x"}')
        self.faulty("token", 8, 'a{b="x",metric="x"}')
        self.faulty("token", 11, 'increase(a{metric in ("x")}[4])')
        self.parsed('metric{a="metric"}', latest("metric", ("a", ("metric",), True)))
        self.parsed("sum by (metric) (a)", ("aggregate", "sum", ("metric",), A))

    def test_functions_and_aggregations_need_what_follows(self):
        self.parsed("sum + sum(sum)", binary("+", latest("sum"), ("aggregate", "sum", (), latest("sum"))))
        self.parsed("increase - increase(increase[3])",
                    binary("-", latest("increase"), ("over", "increase", "increase", (), 3)))
        self.parsed("min\n(a)", ("aggregate", "min", (), A))
        self.parsed("max by\t(by) (by)", ("aggregate", "max", ("by",), latest("by")))
        self.faulty("token", 1, "a(b)")
        self.faulty("token", 2, "a by (b) (c)")
        self.faulty("token", 9, "increase by (b) (c)")
        self.faulty("token", 3, "or (a)")
        self.faulty("token", 12, "increase(sum(a)[3])")
        self.faulty("token", 17, "increase(increase(a[2])[3])")
        self.faulty("token", 13, "increase(sum by (a)[3])")

    def test_meaning_words_as_all_at_once(self):
        self.parsed("or or or and and unless unless", binary("or", latest("or"), binary(
            "unless", binary("and", latest("or"), latest("and")), latest("unless"))))
        self.parsed('in{in in ("in"), not not in ("not")}', latest(
            "in", ("in", ("in",), True), ("not", ("not",), False)))


class TokenFaultTest(ParsingTest):

    def test_where_an_operand_is_expected(self):
        for before in ("", "(", "a + ", "sum(", "sum by (x) (", "1 or ", "(1 - "):
            for token in (")", "{", "}", "[", "]", ",", "=", "!=", "==", "<", "<=", ">", ">=", "+", "*", '"a"'):
                self.faulty("token", len(before), before + token)
                self.faulty("token", len(before) + 1, before + " " + token + " a")

    def test_behind_minus(self):
        for token in ("a", "(", "-", "+", '"1"', ")", "sum(a)"):
            self.faulty("token", 1, "-" + token)
            self.faulty("token", 4, "a --" + token)

    def test_behind_an_operand(self):
        for before in ("a", "1", "-1", "(a)", "a{}", 'a{b="x"}', "sum(a)", "sum by (x) (a)", "increase(a[3])"):
            for token in ("x", "1", '"x"', "[", "]", "}", ",", "=", "in", "not", "metric", ")"):
                self.faulty("token", len(before) + 1, before + " " + token)
            self.faulty("token", len(before) + 2, "(" + before + " x")
            self.faulty("token", len(before) + 2, "(" + before + " ]")
        for before in ("1", "-1", "(a)", "a{}", 'a{b="x"}', "sum(a)", "increase(a[3])"):
            for token in ("{", "(", "by"):
                self.faulty("token", len(before) + 1, before + " " + token)

    def test_in_braces(self):
        for text, place in (
            ("a{,}", 2), ("a{1}", 2), ('a{"b"}', 2), ("a{{", 2), ('a{b="x",}', 8), ('a{b="x",,c="y"}', 8), ("a{b}", 3),
            ("a{b,c}", 3), ("a{b=}", 4), ("a{b=x}", 4), ("a{b=1}", 4), ('a{b=="x"}', 3), ('a{b<"x"}', 3), ('a{b "x"}', 4),
            ('a{b not "x"}', 8), ('a{b not = "x"}', 8), ('a{b not != "x"}', 8), ('a{b in "x"}', 7), ("a{b in ()}", 8),
            ('a{b in ("x",)}', 12), ('a{b in ("x" "y")}', 12), ('a{b in (x)}', 8), ('a{b in ("x"}', 11),
            ('a{b in in ("x")}', 7), ('a{b not not in ("x")}', 8), ('a{b="x" c="y"}', 8), ('a{b="x")', 7), ('a{b="x"]', 7),
            ('a{b=("x")}', 4), ('a{b in ("x"),}', 13), ('a{b="x"}{}', 8), ('a{b=="x"}', 3), ("a{b or", 4),
        ):
            self.faulty("token", place, text)

    def test_over_a_range(self):
        for text, place in (
            ("increase()", 9), ("increase(1[3])", 9), ("increase((a)[3])", 9), ("increase(-1[3])", 9), ("increase(a)", 10),
            ("increase(a{})", 12), ("increase(a[])", 11), ("increase(a[b])", 11), ("increase(a[-3])", 11),
            ("increase(a[3)", 12), ("increase(a[3] + 1)", 14), ("increase(a[3][3])", 13),
            ("increase(a[3]{})", 13), ("increase(a[3 3])", 13), ("increase(a + b[3])", 11), ("increase(a[3], 1)", 13),
            ('increase(a[3]))', 14), ("a[3]", 1), ("(a[3])", 2), ('increase(a{b="x"} c)', 18), ("increase{}[3]", 10),
            ('increase(a{}{}[3])', 12), ("sum(a[3])", 5),
        ):
            self.faulty("token", place, text)

    def test_aggregations(self):
        for text, place in (
            ("sum()", 4), ("sum(a b)", 6), ("sum(a, b)", 5), ("sum by a (b)", 7), ("sum by (a b) (c)", 10),
            ("sum by (a,) (c)", 10), ("sum by (,a) (c)", 8), ("sum by (1) (c)", 8), ('sum by ("a") (c)', 8),
            ("sum by (a) c", 11), ("sum by (a) by (b) (c)", 11), ("sum (a) by (b)", 8),
            ("sum by by (a) (c)", 7), ("sum by (a) ()", 12), ("sum by () {}", 10), ("sum by {a} (c)", 7),
            ("sum by (a)) (c)", 10), ("sum{} by (a) (c)", 6), ("sum{}(a)", 5), ("sum by (a < b) (c)", 10),
        ):
            self.faulty("token", place, text)

    def test_first_one_is_told(self):
        self.faulty("token", 0, ") ) a b")
        self.faulty("token", 2, "a b c + +")
        self.faulty("token", 4, "a + * b ?")


class CharacterFaultTest(ParsingTest):

    def test_each_fault_of_a_character(self):
        self.faulty("character", 2, "a ?")
        self.faulty("character", 0, "A")
        self.faulty("character", 6, 'a{b="x y"}')
        self.faulty("character", 3, "a !b")
        self.faulty("long", 20, "a" * 21)
        self.faulty("long", 25, 'a{b="' + "x" * 21 + '"}')
        self.faulty("great", 15, "1" + "0" * 15)
        self.faulty("great", 26, "increase(a[" + "9" * 16 + "])")

    def test_before_the_token_is_finished(self):
        """The token could not stand there, but its wrong character comes first."""
        self.faulty("long", 22, "a " + "b" * 21)
        self.faulty("great", 17, "a 1" + "0" * 15)
        self.faulty("character", 4, 'a "b?"')
        self.faulty("long", 23, 'a "' + "b" * 21 + '"')
        self.faulty("character", 1, "!?")
        self.faulty("token", 2, "a " + "b" * 20)
        self.faulty("token", 2, "a " + "9" * 15)
        self.faulty("token", 2, 'a "b"')
        self.faulty("token", 0, "!=")

    def test_the_first_token_with_a_fault_is_told(self):
        self.faulty("token", 2, "a b ?")
        self.faulty("character", 4, "a + ? b c")
        self.faulty("token", 0, ") " + "b" * 21)
        self.faulty("token", 2, "a 1 1" + "0" * 15)
        self.faulty("token", 2, 'a "b" "?')
        self.faulty("great", 15, "1" + "0" * 15 + " 1 1")


class EndFaultTest(ParsingTest):

    def test_within_a_token(self):
        self.faulty("end", 5, 'a{b="')
        self.faulty("end", 6, 'a{b="x')
        self.faulty("end", 4, "a{b!")
        self.faulty("end", 3, "a !")
        self.faulty("end", 1, '"')
        self.faulty("end", 4, "(a !")

    def test_where_the_expression_is_not_finished(self):
        texts = (
            "", " ", "\n\t", "-", "(", "(a", "(1", "a +", "a or", "a -", "1 - -", "a{", "a{b", "a{b=", "a{b!=", "a{b in",
            "a{b not", "a{b not in", "a{b in (", 'a{b in ("x"', 'a{b in ("x",', 'a{b in ("x")', 'a{b="x"', 'a{b="x",',
            "increase(", "increase(a", "increase(a{", "increase(a{}", "increase(a[", "increase(a[3", "increase(a[3]",
            "sum(", "sum(a", "sum by", "sum by (", "sum by (a", "sum by (a,", "sum by (a)", "sum by ()", "sum by (a) (",
            "sum by (a) (b", "((a)", "a < (b", "a + sum by (x) ((b)",
        )
        for text in texts:
            self.faulty("end", len(text), text)
            self.faulty("end", len(text) + 2, text + "  ")
            self.faulty("end", len(text) + 1, "\t" + text)

    def test_before_the_faults_behind_it(self):
        self.faulty("end", 21, "(" * 21)
        self.faulty("end", 300, "(" * 300)
        self.faulty("end", 27, "a + b + c + d + e + f + g +")
        self.faulty("end", 13, "increase(a[0]")
        self.faulty("end", 7, "1 < 2 +")


class LongFaultTest(ParsingTest):

    def test_bounds(self):
        self.parsed("a" + " " * 299, A)
        self.faulty("long", 300, "a" + " " * 300)
        self.parsed("1+" * 4 + "0" * 291 + "1", binary("+", binary("+", binary("+", binary(
            "+", number(1), number(1)), number(1)), number(1)), number(1)))
        self.faulty("long", 300, "1+" * 4 + "0" * 292 + "1")

    def test_before_all_other_faults(self):
        for text in ("?", ")", "", "(", '"', "1 < 2", "increase(a[0])"):
            self.faulty("long", 300, text + " " * (301 - len(text)))


class DeepFaultTest(ParsingTest):

    def test_bounds(self):
        self.parsed("(" * 20 + "a" + ")" * 20, A)
        self.faulty("deep", 20, "(" * 21 + "a" + ")" * 21)
        self.faulty("deep", 20, "(" * 100 + "a" + ")" * 100)
        self.faulty("deep", 44, " " * 4 + "( " * 21 + "a" + ")" * 21)

    def test_brackets_that_are_closed_do_not_count(self):
        self.parsed("(" * 20 + "1" + ")" * 20 + "+" + "(" * 20 + "1" + ")" * 20, binary("+", number(1), number(1)))
        self.parsed("(" * 19 + "(1) + (1)" + ")" * 19, binary("+", number(1), number(1)))
        self.faulty("deep", 26, "(" * 19 + "(1) + ((1))" + ")" * 19)

    def test_brackets_of_all_sorts_count(self):
        self.parsed("(" * 19 + "increase(a[3])" + ")" * 19, ("over", "increase", "a", (), 3))
        self.faulty("deep", 28, "(" * 20 + "increase(a[3])" + ")" * 20)
        self.parsed("(" * 19 + 'a{b in ("x")}' + ")" * 19, latest("a", ("b", ("x",), True)))
        self.faulty("deep", 27, "(" * 20 + 'a{b in ("x")}' + ")" * 20)
        self.parsed("(" * 19 + "sum by (x) (a)" + ")" * 19, ("aggregate", "sum", ("x",), A))
        self.faulty("deep", 27, "(" * 20 + "sum by (x) (a)" + ")" * 20)
        self.parsed("(" * 12 + "sum(" * 8 + "a" + ")" * 20, parse("sum(" * 8 + "a" + ")" * 8))
        self.faulty("deep", 12 + 8 * 4 + 8, "(" * 12 + "sum(" * 8 + "increase(a[2])" + ")" * 20)

    def test_before_the_faults_behind_it(self):
        self.faulty("deep", 20, "(" * 21 + "1 < 2" + ")" * 21)
        self.faulty("deep", 34, "a+b+c+d+e+f+g+" + "(" * 21 + "a" + ")" * 21)
        self.faulty("deep", 83, "sum(" * 20 + "sum(a" + ")" * 21)
        self.faulty("deep", 36, "increase(a[0]) +" + "(" * 21 + "a" + ")" * 21)


class ManyFaultTest(ParsingTest):

    def many(self, text):
        self.faulty("many", len(text), text)
        self.faulty("many", len(text) + 1, text + " ")

    def test_selectors(self):
        six = "a + b + increase(c[2]) + a + a + sum(b)"
        self.assertEqual(kind_of(parse(six)), "vector")
        self.many(six + " + a")
        self.many(six + " + max_over(a[5])")
        self.assertEqual(kind_of(parse("a" + " + 1" * 8)), "vector")

    def test_operators(self):
        eight = "sum(min(a + 1 - 2 * 3)) < 4 and sum(b)"
        self.assertEqual(kind_of(parse(eight)), "vector")
        self.many(eight + " or a")
        self.many("sum(" + eight + ")")
        self.parsed("1" + "+1" * 8, parse("(((((((1+1)+1)+1)+1)+1)+1)+1)+1"))
        self.many("1" + "+1" * 9)
        self.many("1" + "+1" * 149)

    def test_signs_of_numbers_are_no_operators(self):
        self.assertEqual(kind_of(parse("-1" + "--1" * 8)), "number")

    def test_matchers(self):
        for before, behind in (("a{", "}"), ("increase(a{", "}[3])")):
            self.assertEqual(kind_of(parse(before + ",".join(['b="x"'] * 6) + behind)), "vector")
            self.many(before + ",".join(['b="x"'] * 7) + behind)
        braces = "a{" + ",".join(['b=""'] * 6) + "}"
        self.assertEqual(kind_of(parse(" + ".join([braces] * 6))), "vector")

    def test_values(self):
        for before, behind in (("a{b in (", ")}"), ("a{b not in (", ")}"), ("increase(a{b in (", ")}[3])"),
                               ('a{c="x", b in (', '), d="x"}')):
            self.assertEqual(kind_of(parse(before + ",".join(['"x"'] * 6) + behind)), "vector")
            self.many(before + ",".join(['"x"'] * 7) + behind)
        values = "b in (" + ",".join(['""'] * 6) + ")"
        self.assertEqual(kind_of(parse("a{" + ",".join([values] * 6) + "}")), "vector")

    def test_names(self):
        self.assertEqual(kind_of(parse("sum by (a,b,c,d,e,f) (a)")), "vector")
        self.many("sum by (a,b,c,d,e,f,g) (a)")
        self.many("1 + sum by (a,a,a,a,a,a,a) (a)")
        self.assertEqual(kind_of(parse("sum by (a,b,c,d,e,f) (min by (a,b,c,d,e,f) (a))")), "vector")

    def test_before_the_faults_behind_it(self):
        self.many("increase(a[0]) + a + a + a + a + a + a")
        self.many("a + a + a + a + a + a + (1 < a) + (1 and 2)")
        self.many("sum by (a,b,c,d,e,f,g) (1)")


class SpanFaultTest(ParsingTest):

    def test_bounds(self):
        for span in (1, 2, 999, 1000):
            self.parsed("increase(a[%d])" % span, ("over", "increase", "a", (), span))
        for span in (0, 1001, 10 ** 15 - 1):
            self.faulty("span", 11, "increase(a[%d])" % span)
            self.faulty("span", 16, "1 + increase(a[ %d ])" % span)
        self.parsed("increase(a[0001000])", ("over", "increase", "a", (), 1000))
        self.faulty("span", 11, "increase(a[0000])")

    def test_first_one_is_told(self):
        self.faulty("span", 11, "increase(a[0]) + increase(a[1001])")
        self.faulty("span", 28, "increase(a[1]) + increase(a[1001]) * increase(a[0])")
        self.faulty("span", 16, "sum(max_over(ab[1001])) < increase(a[0])")

    def test_before_the_fault_behind_it(self):
        self.faulty("span", 21, "1 < 2 and increase(a[0])")
        self.faulty("span", 25, "sum(1) unless increase(a[0]) == 1 < 2")


class KindsFaultTest(ParsingTest):

    def test_comparisons_of_numbers(self):
        for sign in LEVELS[2]:
            self.faulty("kinds", 1, "1" + sign + "2")
            self.faulty("kinds", 4, "(-1 " + sign + " 2 * 3)")

    def test_joining_of_numbers(self):
        for sign in LEVELS[0] + LEVELS[1]:
            self.faulty("kinds", 2, "1 " + sign + " a")
            self.faulty("kinds", 2, "a " + sign + " 1")
            self.faulty("kinds", 6, "1 + 2 " + sign + " 3")

    def test_aggregations_of_numbers(self):
        for word in AGGREGATE_WORDS:
            self.faulty("kinds", 0, word + "(1)")
            self.faulty("kinds", 4, "a + " + word + " by (x) (1 * 2)")

    def test_place_is_where_the_kind_is_lost(self):
        self.faulty("kinds", 6, "sum(1 < 2)")
        self.faulty("kinds", 4, "sum(sum(1))")
        self.faulty("kinds", 7, "a + (1 or a) + b")
        self.faulty("kinds", 14, "a and (b + (1 == 2 or b))")
        self.faulty("kinds", 2, "a and (1 + 2) or b")
        self.faulty("kinds", 8, "a and b or 1")
        self.faulty("kinds", 10, "(a and b) and 1")

    def test_first_in_the_order_of_application(self):
        self.faulty("kinds", 3, "(1 < 2) + (3 < 4)")
        self.faulty("kinds", 6, "1 and sum(2)")
        self.faulty("kinds", 8, "1 or (2 < 3)")
        self.faulty("kinds", 2, "1 < 2 and 3")
        self.faulty("kinds", 13, "1 or sum(2 + sum(3))")
        self.faulty("kinds", 5, "sum(1<2<3)")
        self.faulty("kinds", 14, "a and b or (1 or a) and 1")
        self.faulty("kinds", 10, "a + 1 < 2 or 3")
        self.faulty("kinds", 17, "sum((a and b) or sum(2))")

    def test_numbers_and_vectors_are_expressions(self):
        for text in ("1", "1 + 2 * -3", "a", "a < 1", "1 < a", "a and b", "1 - a", "sum(a - 1)", "a == b"):
            self.assertIsNotNone(kind_of(parse(text)))


if __name__ == "__main__":
    unittest.main()
