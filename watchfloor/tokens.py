"""The tokens of a text."""

from watchfloor.errors import BadExpression
from watchfloor.matching import CHARACTERS, LETTERS, LONGEST_WORD
from watchfloor.samples import GREATEST_VALUE

LONGEST_TEXT = 300
BLANKS = " \t\n"
DIGITS = "0123456789"
QUOTE = '"'
SYMBOLS = ("(", ")", "{", "}", "[", "]", ",", "=", "!=", "==", "<", "<=", ">", ">=", "+", "-", "*")


def tokens(text):
    """Return the list of the tokens of a text; raise BadExpression for a fault in it."""
    found, fault = scan(text)
    if fault is not None:
        raise BadExpression(fault[0], fault[1])
    return found


def scan(text):
    """Return the tokens before the first fault of a text, and this fault with its place or None.

    The fault is told instead of raised, because a token before it can have an earlier one.
    """
    found = []
    if len(text) > LONGEST_TEXT:
        return found, ("long", LONGEST_TEXT)
    at = run_end(text, 0, BLANKS)
    while at < len(text):
        token, end, fault = token_at(text, at)
        if fault is not None:
            return found, fault
        found.append(token)
        at = run_end(text, end, BLANKS)
    return found, None


def token_at(text, at):
    """Return the token that begins at a place, the place behind it, and its fault or None."""
    if text[at] in LETTERS:
        return word_at(text, at)
    if text[at] in DIGITS:
        return number_at(text, at)
    if text[at] == QUOTE:
        return string_at(text, at)
    return symbol_at(text, at)


def run_end(text, at, characters):
    """Return the place of the first character from a place on that is none of these."""
    while at < len(text) and text[at] in characters:
        at += 1
    return at


def word_at(text, at):
    """Return what token_at returns, for a word."""
    end = run_end(text, at, CHARACTERS)
    if end - at > LONGEST_WORD:
        return None, end, ("long", at + LONGEST_WORD)
    return ("word", text[at:end], at), end, None


def number_at(text, at):
    """Return what token_at returns, for a number."""
    end = run_end(text, at, DIGITS)
    value = 0
    for place in range(at, end):
        value = 10 * value + int(text[place])
        if value > GREATEST_VALUE:
            return None, end, ("great", place)
    return ("number", value, at), end, None


def string_at(text, at):
    """Return what token_at returns, for a string."""
    end = run_end(text, at + 1, CHARACTERS)
    if end - at - 1 > LONGEST_WORD:
        return None, end, ("long", at + 1 + LONGEST_WORD)
    if end == len(text):
        return None, end, ("end", end)
    if text[end] != QUOTE:
        return None, end, ("character", end)
    return ("string", text[at + 1:end], at), end + 1, None


def symbol_at(text, at):
    """Return what token_at returns, for a symbol or a character that begins no token."""
    for end in (at + 2, at + 1):
        if text[at:end] in SYMBOLS:
            return ("symbol", text[at:end], at), at + len(text[at:end]), None
    if text[at] != "!":
        return None, at, ("character", at)
    if at + 1 == len(text):
        return None, at, ("end", at + 1)
    return None, at, ("character", at + 1)
