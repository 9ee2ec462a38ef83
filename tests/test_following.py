"""Point 19: what can follow a text.

The expected lists are also computed from the grammar of point 13, written down below as rules,
by the algorithm of Earley: it tells, for any row of tokens, which tokens can come next.
"""

import unittest

from tests.support import AGGREGATE_WORDS, RANGE_WORDS, SIGNS, WatchTest
from watchfloor.following import expected

RULES = {
    "text": [["expression", "END"]],
    "expression": [["operand"]] + [["expression", sign, "operand"] for sign in SIGNS],
    "operand": [["NUMBER"], ["-", "NUMBER"], ["(", "expression", ")"], ["selector"],
                ["RANGE", "(", "selector", "[", "NUMBER", "]", ")"], ["AGGREGATE", "(", "expression", ")"],
                ["AGGREGATE", "by", "(", ")", "(", "expression", ")"],
                ["AGGREGATE", "by", "(", "names", ")", "(", "expression", ")"]],
    "names": [["NAME"], ["names", ",", "NAME"]],
    "selector": [["NAME"], ["NAME", "{", "}"], ["NAME", "{", "matchers", "}"]],
    "matchers": [["matcher"], ["matchers", ",", "matcher"]],
    "matcher": [["LABEL", "=", "STRING"], ["LABEL", "!=", "STRING"], ["LABEL", "in", "(", "strings", ")"],
                ["LABEL", "not", "in", "(", "strings", ")"]],
    "strings": [["STRING"], ["strings", ",", "STRING"]],
}
WORDS = ("or", "and", "unless", "by", "in", "not", "metric", "a") + RANGE_WORDS[:1] + AGGREGATE_WORDS[:1]
SYMBOLS = ("(", ")", "{", "}", "[", "]", ",", "=", "!=", "<", "-")
VOCABULARY = WORDS + SYMBOLS + ('"x"', "7")

OPERAND = ["(", "-", "NAME", "NUMBER"]
CONTINUED = ["!=", "*", "+", "-", "<", "<=", "==", ">", ">=", "and", "or", "unless"]


def sorts_of(token):
    """Return the symbols of the grammar that a token can be."""
    if token.isdigit():
        return ["NUMBER"]
    if token.startswith('"'):
        return ["STRING"]
    if not token[0].isalpha():
        return [token]
    found = [token, "NAME"]
    if token != "metric":
        found.append("LABEL")
    if token in RANGE_WORDS:
        found.append("RANGE")
    if token in AGGREGATE_WORDS:
        found.append("AGGREGATE")
    return found


def predicted(states, columns):
    """Complete a column of Earley's algorithm: items (head, body, dot, origin)."""
    done = []
    waiting = list(states)
    while waiting:
        item = waiting.pop()
        if item in done:
            continue
        done.append(item)
        head, body, dot, origin = item
        if dot < len(body) and body[dot] in RULES:
            waiting.extend((body[dot], tuple(rule), 0, len(columns)) for rule in RULES[body[dot]])
        if dot == len(body):
            column = done if origin == len(columns) else columns[origin]
            waiting.extend((h, b, d + 1, o) for h, b, d, o in list(column) if d < len(b) and b[d] == head)
    return done


def choices(column):
    """Return the terminals that can come next."""
    return {body[dot] for _, body, dot, _ in column if dot < len(body) and body[dot] not in RULES}


def told(column):
    """Return what `expected` returns for such a column; RANGE and AGGREGATE are words like any other."""
    return sorted({"NAME" if choice in ("RANGE", "AGGREGATE") else choice for choice in choices(column)})


class FollowingTest(WatchTest):

    def follows(self, text, *lists):
        self.gives(sorted(sum(lists, [])), expected, text)


class PlacesTest(FollowingTest):

    def test_where_an_operand_is_expected(self):
        for text in ("", " ", "(", "a +", "a or", "a unless ", "1 <", "((", "sum(", "sum by (a) (", "(a *", "sum ( sum("):
            self.follows(text, OPERAND)

    def test_behind_minus(self):
        for text in ("-", "a - -", "(-", "1--"):
            self.follows(text, ["NUMBER"])
        self.follows("a -", OPERAND)

    def test_behind_an_operand(self):
        for text in ("1", "-1", "a{}", 'a{b="x"}', "(a)", "sum(a)", "sum by (x) (a)", "increase(a[3])", "1 + 2", "12"):
            self.follows(text, CONTINUED, ["END"])
            self.follows("(" + text, CONTINUED, [")"])
            self.follows("sum(" + text, CONTINUED, [")"])
            self.follows("a or (" + text + ")", CONTINUED, ["END"])

    def test_behind_words_where_an_operand_is_expected(self):
        for word in ("a", "or", "by", "not", "metric", "sums", "sum_ove"):
            self.follows(word, CONTINUED, ["END", "{"])
            self.follows("(" + word, CONTINUED, [")", "{"])
        for word in RANGE_WORDS:
            self.follows(word, CONTINUED, ["END", "{", "("])
            self.follows("1 + (" + word + " ", CONTINUED, [")", "{", "("])
        for word in AGGREGATE_WORDS:
            self.follows(word, CONTINUED, ["END", "{", "(", "by"])
            self.follows("1 + (" + word + " ", CONTINUED, [")", "{", "(", "by"])

    def test_in_braces(self):
        for before, behind in (("a", CONTINUED + ["END"]), ("increase(a", ["["]), ("(sum", CONTINUED + [")"]),
                               ("increase(sum", ["["])):
            self.follows(before + "{", ["LABEL", "}"])
            self.follows(before + "{b", ["!=", "=", "in", "not"])
            self.follows(before + "{in", ["!=", "=", "in", "not"])
            self.follows(before + "{b not", ["in"])
            self.follows(before + "{b in", ["("])
            self.follows(before + "{b not in", ["("])
            for test in ("=", "!=", " in (", " not in ("):
                self.follows(before + "{b" + test, ["STRING"])
            self.follows(before + '{b="x"', [",", "}"])
            self.follows(before + '{b in ("x"', [")", ","])
            self.follows(before + '{b in ("x",', ["STRING"])
            self.follows(before + '{b in ("x")', [",", "}"])
            self.follows(before + '{b="x",', ["LABEL"])
            self.follows(before + '{b="x",not', ["!=", "=", "in", "not"])
            self.follows(before + "{}", behind)
            self.follows(before + '{b="x"}', behind)

    def test_over_a_range(self):
        for before, behind in (("", ["END"]), ("(", [")"])):
            self.follows(before + "increase(", ["NAME"])
            for word in ("a", "sum", "increase", "by"):
                self.follows(before + "increase(" + word, ["[", "{"])
            self.follows(before + "increase(a[", ["NUMBER"])
            self.follows(before + "increase(a[3", ["]"])
            self.follows(before + "increase(a[3]", [")"])
            self.follows(before + "increase(a[3])", CONTINUED, behind)

    def test_aggregations(self):
        self.follows("sum by", ["("])
        self.follows("sum by (", [")", "NAME"])
        self.follows("sum by (metric", [")", ","])
        self.follows("sum by (by,", ["NAME"])
        self.follows("sum by ()", ["("])
        self.follows("sum by (a, b)", ["("])

    def test_a_last_token_that_could_be_longer_is_finished(self):
        self.follows("a <", OPERAND)
        self.follows("a{b=", ["STRING"])
        self.follows("a + o", CONTINUED, ["END", "{"])
        self.follows("su", CONTINUED, ["END", "{"])

    def test_kinds_and_limits_do_not_matter(self):
        for text in ("1 and 2", "sum(1)", "1 < 2", "increase(a[0])", "1" + "+1" * 20, "(a)" + "+(a)" * 20,
                     "sum by (a,b,c,d,e,f,g) (a)", "a{" + ",".join(['b=""'] * 7) + "}",
                     "a{b in (" + ",".join(['""'] * 7) + ")}"):
            self.follows(text, CONTINUED, ["END"])
        self.follows("(" * 30, OPERAND)
        self.follows("(" * 300, OPERAND)
        self.follows("(" * 30 + "1", CONTINUED, [")"])
        self.follows("sum(1) or 1 and", OPERAND)

    def test_result_is_new(self):
        found = expected("")
        found.clear()
        self.follows("", OPERAND)


class NoneTest(FollowingTest):

    def test_long(self):
        self.follows("a +" + " " * 297, OPERAND)
        self.gives(None, expected, "a +" + " " * 298)
        self.gives(None, expected, " " * 301)
        self.gives(None, expected, "(" * 301)

    def test_wrong_characters(self):
        for text in ("?", "a ?", "a + A", '"?', 'a{b="?', "a !b", "b" * 21, 'a{b="' + "x" * 21, "1" + "0" * 15, "_",
                     'a{b="x y"}', "a ! "):
            self.gives(None, expected, text)

    def test_tokens_that_cannot_follow(self):
        for text in (")", "a b", "a(", "a +)", "- a", "--", "a{metric", "a{b=c", "a{,", "increase(1", "increase(a)",
                     "sum by a", "sum by (1", "1 1", 'a "x"', "a = ", "sum()", "a]", "a)", "(a))", "a{b in ()", "a b c ("):
            self.gives(None, expected, text)

    def test_ends_within_a_token(self):
        for text in ('a{b="', 'a{b="x', "a !", "a{b!", '"', "!", "a + \"", 'a{b in ("x", "y'):
            self.gives(None, expected, text)


class GrammarTest(FollowingTest):

    def test_all_short_rows_of_tokens(self):
        """Every row of up to four tokens, and longer ones behind the beginnings of each construct."""
        for before, depth in (
            ([], 4), (["a", "{"], 3), (["sum", "by", "("], 4), (["sum_over", "("], 4), (["(", "a", "{", "a"], 4),
            (["sum_over", "(", "a", "{", "in", "not"], 4), (["sum_over", "(", "a", "{", "a", "=", '"x"'], 4),
            (["(", "sum", "by", "(", "metric"], 4), (["(", "-", "7", "or"], 3), (["sum_over", "(", "not", "["], 4),
        ):
            columns = []
            column = predicted([("text", tuple(RULES["text"][0]), 0, 0)], columns)
            for token in before:
                column = self.advanced(column, columns, token)
            self.explore(before, column, columns, depth)

    def advanced(self, column, columns, token):
        columns.append(column)
        sorts = sorts_of(token)
        moved = [(head, body, dot + 1, origin) for head, body, dot, origin in column
                 if dot < len(body) and body[dot] in sorts]
        return predicted(moved, columns)

    def explore(self, row, column, columns, depth):
        """Compare the lists behind a row of tokens, and behind all longer rows up to a depth."""
        self.assertEqual(expected(" ".join(row)), told(column), row)
        for token in VOCABULARY:
            if not choices(column) & set(sorts_of(token)):
                self.assertIsNone(expected(" ".join(row + [token])), (row, token))
            elif depth > 0:
                following = list(columns)
                self.explore(row + [token], self.advanced(column, following, token), following, depth - 1)


if __name__ == "__main__":
    unittest.main()
