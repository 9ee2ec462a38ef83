"""Points 11 and 12, and number 1 of point 15: the tokens of a text and their faults."""

import unittest

from tests.support import WatchTest
from watchfloor.errors import BadExpression
from watchfloor.tokens import tokens

SYMBOLS = ("(", ")", "{", "}", "[", "]", ",", "=", "!=", "==", "<", "<=", ">", ">=", "+", "-", "*")
WORD_CHARACTERS = "abcdefghijklmnopqrstuvwxyz0123456789_"
BAD_CHARACTERS = "A%.;/'#&|?\\\r\f\u00a0\u00e4\u00b2\u0661"


class TokensTest(WatchTest):

    def faulty(self, fault, place, text):
        self.refused(BadExpression, {"fault": fault, "place": place}, tokens, text)

    def row(self, text, *expected):
        """Check the kinds and values of the tokens of a text."""
        found = tokens(text)
        self.assertIsInstance(found, list)
        self.assertEqual([token[:2] for token in found], list(expected), text)


class KindsTest(TokensTest):

    def test_nothing(self):
        for text in ("", " ", "\t", "\n", " \n\t  "):
            self.gives([], tokens, text)

    def test_words(self):
        self.gives([("word", "a", 0)], tokens, "a")
        self.gives([("word", WORD_CHARACTERS[:20], 0)], tokens, WORD_CHARACTERS[:20])
        self.gives([("word", "z" + WORD_CHARACTERS[20:], 0)], tokens, "z" + WORD_CHARACTERS[20:])
        self.gives([("word", "sum", 0), ("word", "or", 4), ("word", "metric", 7)], tokens, "sum or metric")

    def test_each_letter_begins_a_word(self):
        for letter in WORD_CHARACTERS[:26]:
            self.gives([("word", letter, 0)], tokens, letter)
            self.gives([("number", 5, 0), ("word", letter, 2), ("word", letter, 4)], tokens, "5 " + letter + " " + letter)

    def test_numbers(self):
        self.gives([("number", 0, 0)], tokens, "0")
        self.gives([("number", 1234567890, 0)], tokens, "1234567890")
        self.gives([("number", 7, 0)], tokens, "007")
        self.gives([("number", 0, 0)], tokens, "0" * 300)

    def test_strings(self):
        self.gives([("string", "", 0)], tokens, '""')
        self.gives([("string", "a", 0)], tokens, '"a"')
        self.gives([("string", "_1", 1)], tokens, ' "_1"')
        self.gives([("string", "9", 0), ("string", "or", 3)], tokens, '"9""or"')
        self.gives([("string", WORD_CHARACTERS[-20:], 0)], tokens, '"' + WORD_CHARACTERS[-20:] + '"')

    def test_symbols(self):
        for symbol in SYMBOLS:
            self.gives([("symbol", symbol, 0)], tokens, symbol)
            self.gives([("symbol", symbol, 2)], tokens, "  " + symbol + " ")
            self.gives([("word", "a", 0), ("symbol", symbol, 1), ("number", 1, 1 + len(symbol))],
                       tokens, "a" + symbol + "1")

    def test_whole_text(self):
        self.gives([
            ("word", "sum", 0), ("word", "by", 4), ("symbol", "(", 7), ("word", "a", 8), ("symbol", ")", 9),
            ("symbol", "(", 10), ("word", "up", 11), ("symbol", "{", 13), ("word", "b", 14), ("symbol", "!=", 15),
            ("string", "x", 17), ("symbol", "}", 20), ("symbol", "[", 21), ("number", 5, 22), ("symbol", "]", 23),
            ("symbol", ")", 24), ("symbol", ">=", 25), ("symbol", "-", 27), ("number", 3, 28),
        ], tokens, 'sum by (a)(up{b!="x"}[5])>=-3')

    def test_result_is_new(self):
        found = tokens("a b")
        found.clear()
        self.assertEqual(len(tokens("a b")), 2)


class BlanksTest(TokensTest):

    def test_between_all_tokens(self):
        for blank in (" ", "\t", "\n", " \t\n "):
            parts = ["a", "5", '"b"', "<=", "(", "c", "d", "12", "34"]
            text = blank + blank.join(parts) + blank
            self.row(text, ("word", "a"), ("number", 5), ("string", "b"), ("symbol", "<="), ("symbol", "("),
                     ("word", "c"), ("word", "d"), ("number", 12), ("number", 34))
            for _, _, place in tokens(text):
                self.assertNotIn(text[place], " \t\n")

    def test_needed_between_words_and_numbers(self):
        self.row("ab", ("word", "ab"))
        self.row("a b", ("word", "a"), ("word", "b"))
        self.row("a5", ("word", "a5"))
        self.row("a 5", ("word", "a"), ("number", 5))
        self.row("55", ("number", 55))
        self.row("5 5", ("number", 5), ("number", 5))
        self.row("5a", ("number", 5), ("word", "a"))

    def test_not_needed_elsewhere(self):
        self.row('a"b"c', ("word", "a"), ("string", "b"), ("word", "c"))
        self.row('1"2"3', ("number", 1), ("string", "2"), ("number", 3))
        self.row("a+b", ("word", "a"), ("symbol", "+"), ("word", "b"))
        self.row("(1)", ("symbol", "("), ("number", 1), ("symbol", ")"))


class LongestTokenTest(TokensTest):

    def test_signs(self):
        self.row("<=", ("symbol", "<="))
        self.row("< =", ("symbol", "<"), ("symbol", "="))
        self.row("<==", ("symbol", "<="), ("symbol", "="))
        self.row("<<=", ("symbol", "<"), ("symbol", "<="))
        self.row(">==", ("symbol", ">="), ("symbol", "="))
        self.row("===", ("symbol", "=="), ("symbol", "="))
        self.row("====", ("symbol", "=="), ("symbol", "=="))
        self.row("=!=", ("symbol", "="), ("symbol", "!="))
        self.row("!==", ("symbol", "!="), ("symbol", "="))
        self.row("!===", ("symbol", "!="), ("symbol", "=="))
        self.row("=<", ("symbol", "="), ("symbol", "<"))
        self.row("=>", ("symbol", "="), ("symbol", ">"))
        self.row("<>", ("symbol", "<"), ("symbol", ">"))
        self.row("--", ("symbol", "-"), ("symbol", "-"))
        self.row("**", ("symbol", "*"), ("symbol", "*"))
        self.row("(){}[]", *[("symbol", symbol) for symbol in "(){}[]"])

    def test_words(self):
        self.row("orange", ("word", "orange"))
        self.row("in_", ("word", "in_"))
        self.row("a_b", ("word", "a_b"))


class CharacterTest(TokensTest):

    def test_begins_no_token(self):
        for character in BAD_CHARACTERS + "_":
            self.faulty("character", 0, character)
            self.faulty("character", 2, "  " + character)
            self.faulty("character", 1, "(" + character + ")")
            self.faulty("character", 1, "5" + character)
            self.faulty("character", 3, "a b" + character if character != "_" else "a 5" + character)

    def test_behind_a_word(self):
        for character in BAD_CHARACTERS:
            self.faulty("character", 2, "ab" + character)
            self.faulty("character", 20, "a" * 20 + character)

    def test_in_a_string(self):
        for character in BAD_CHARACTERS + " \t\n(<-!":
            self.faulty("character", 1, '"' + character + '"')
            self.faulty("character", 3, '"ab' + character + 'c"')
            self.faulty("character", 3, '"ab' + character)
            self.faulty("character", 21, '"' + "a" * 20 + character + '"')

    def test_behind_an_exclamation_mark(self):
        for character in BAD_CHARACTERS + " \t\n!<a1(\"":
            self.faulty("character", 1, "!" + character + "=")
            self.faulty("character", 3, "a !" + character)

    def test_first_one_is_told(self):
        self.faulty("character", 2, "a ?" + "b" * 30)
        self.faulty("character", 2, "a ? \"b?")
        self.faulty("long", 20, "b" * 21 + "?")
        self.faulty("great", 15, "1" + "0" * 15 + "?")


class LongTest(TokensTest):

    def test_text(self):
        self.row("a" + " " * 299, ("word", "a"))
        self.faulty("long", 300, "a" + " " * 300)
        self.faulty("long", 300, " " * 301)
        self.faulty("long", 300, "1" * 400)

    def test_text_comes_before_all_other_faults(self):
        self.faulty("long", 300, "?" + " " * 300)
        self.faulty("character", 0, "?" + " " * 299)
        self.faulty("long", 300, "b" * 30 + " " * 300)

    def test_word(self):
        self.gives([("word", "a" * 20, 0)], tokens, "a" * 20)
        self.gives([("word", "a" * 20, 1), ("word", "b", 22)], tokens, " " + "a" * 20 + " b")
        for character in WORD_CHARACTERS:
            self.faulty("long", 20, "a" * 20 + character)
        self.faulty("long", 23, "b, " + "a" * 40)

    def test_string(self):
        self.gives([("string", "1" * 20, 0)], tokens, '"' + "1" * 20 + '"')
        for character in WORD_CHARACTERS:
            self.faulty("long", 21, '"' + "1" * 20 + character + '"')
            self.faulty("long", 21, '"' + "1" * 20 + character)
        self.faulty("long", 23, 'b "' + "1" * 40 + '"')
        self.faulty("long", 21, '"' + "1" * 21 + '?"')


class GreatTest(TokensTest):

    def test_bounds(self):
        self.gives([("number", 10 ** 15 - 1, 0)], tokens, "9" * 15)
        self.faulty("great", 15, "1" + "0" * 15)
        self.faulty("great", 15, "9" * 16)
        self.faulty("great", 15, "1" + "0" * 30)
        self.faulty("great", 17, "a " + "1" + "0" * 15)

    def test_zeros_in_front(self):
        self.gives([("number", 10 ** 15 - 1, 0)], tokens, "0" * 100 + "9" * 15)
        self.faulty("great", 115, "0" * 100 + "1" + "0" * 15)

    def test_in_words_and_strings_digits_are_no_numbers(self):
        self.gives([("word", "a" + "9" * 19, 0), ("string", "9" * 20, 20)], tokens, "a" + "9" * 19 + '"' + "9" * 20 + '"')


class EndTest(TokensTest):

    def test_within_a_string(self):
        self.faulty("end", 1, '"')
        self.faulty("end", 3, '"ab')
        self.faulty("end", 21, '"' + "a" * 20)
        self.faulty("end", 7, '"ab" "c')
        self.faulty("end", 3, '"""')

    def test_behind_an_exclamation_mark(self):
        self.faulty("end", 1, "!")
        self.faulty("end", 3, "a !")
        self.faulty("end", 3, "!=!")

    def test_last_character_of_a_text(self):
        self.faulty("end", 300, " " * 299 + "!")
        self.faulty("end", 300, " " * 299 + '"')
        self.faulty("long", 300, " " * 300 + '"')


if __name__ == "__main__":
    unittest.main()
