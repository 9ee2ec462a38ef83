"""The lines of the text of a setup: their words, and what is wrong with these alone."""

from watchfloor.matching import is_name, is_value
from watchfloor.tokens import DIGITS

MOST_DIGITS = 5
TESTS = ("in", "not")
EMPTY_VALUE = "-"
# For each first word the sorts of the words that stand behind it, and the sort of any number of
# further words, or None if there are none.
SHAPES = {
    "week": (("number",), None),
    "lookback": (("number",), None),
    "store": (("number", "number", "number", "number"), None),
    "pager": (("number", "number", "number"), None),
    "person": (("name", "number"), None),
    "schedule": (("name",), None),
    "policy": (("name",), None),
    "window": (("name",), None),
    "holdback": ((), None),
    "rules": (("name", "number", "number"), None),
    "layer": (("number", "number", "name"), "name"),
    "span": (("number", "number"), None),
    "standin": (("name", "number", "number"), None),
    "ring": (("name", "number"), None),
    "match": (("name", "test", "value"), "value"),
    "group": ((), "name"),
    "wait": (("number",), None),
    "interval": (("number",), None),
    "again": (("number",), None),
    "mute": ((), "name"),
    "by": (("name",), None),
    "source": (("name", "test", "value"), "value"),
    "target": (("name", "test", "value"), "value"),
    "equal": ((), "name"),
    "record": (("name",), None),
    "alert": (("name", "number", "number"), None),
    "label": (("name", "value"), None),
}


def words_of(line):
    """Return the list of the words of a line; an empty one if the line means nothing."""
    words = [word for word in line.replace("\t", " ").split(" ") if word != ""]
    return [] if words and words[0].startswith("#") else words


def check_words(words):
    """Return the problem that the words of a line have by themselves, or None."""
    word, further = words[0], words[1:]
    if word == "expr":
        return None if further else "fields"
    if word == "route":
        # The root alone has no parent.
        sorts = ["number"] if further else []
    elif word in SHAPES:
        sorts = sorts_for(word, len(further))
    else:
        return "unknown"
    if len(sorts) != len(further):
        return "fields"
    for sort, text in zip(sorts, further):
        if not is_of_sort(sort, text):
            return sort
    return None


def sorts_for(word, many):
    """Return the sorts of the words behind a first one, if there are so many and can be."""
    fixed, more = SHAPES[word]
    if more is None:
        return list(fixed)
    return list(fixed) + [more] * (many - len(fixed))


def is_of_sort(sort, text):
    """Tell whether a word is a name, a value, a number or a test."""
    if sort == "name":
        return is_name(text)
    if sort == "value":
        return text == EMPTY_VALUE or is_value(text)
    if sort == "number":
        return is_number(text)
    return text in TESTS


def is_number(text):
    """Tell whether a word is a number."""
    if not 1 <= len(text) <= MOST_DIGITS or not all(character in DIGITS for character in text):
        return False
    return text == "0" or text[0] != "0"
