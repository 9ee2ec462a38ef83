"""The problems of a text of a setup by points 98, 100 and 101, word for word: each line looks back at all before it."""

import re

from watchfloor.errors import BadExpression
from watchfloor.expressions import kind_of
from watchfloor.parsing import parse

NAME, VALUE, NUMBER, TEST = "[a-z][a-z0-9_]{0,19}", "(?:[a-z0-9_]{1,20}|-)", "(?:0|[1-9][0-9]{0,4})", "(?:in|not)"
SORTS = {"name": NAME, "value": VALUE, "number": NUMBER, "test": TEST}
MATCHER = "name test value value.."
FORMS = {
    "week": "number", "lookback": "number", "store": "number number number number", "pager": "number number number",
    "person": "name number", "schedule": "name", "policy": "name", "window": "name", "holdback": "", "rules": "name number number",
    "layer": "number number name name..", "span": "number number", "standin": "name number number", "ring": "name number",
    "match": MATCHER, "group": "name..", "wait": "number", "interval": "number", "again": "number", "mute": "name..", "by": "name",
    "source": MATCHER, "target": MATCHER, "equal": "name..", "record": "name", "alert": "name number number", "label": "name value",
}
HEADS = {
    "week": "", "lookback": "", "store": "", "pager": "", "person": "", "schedule": "layer span standin", "policy": "ring",
    "window": "span", "holdback": "source target equal", "rules": "record alert label expr",
    "route": "match group wait interval again mute by",
}


class PlainText:
    """The lines of a text that mean something, as pairs of a number and words."""

    def __init__(self, text):
        self.rows = []
        self.texts = {}
        for number, line in enumerate(text.split("\n"), 1):
            words = re.findall("[^ \t]+", line)
            if words and words[0][0] != "#":
                self.rows.append((number, words))
                self.texts[number] = line

    def before(self, number):
        """Return the rows before a line, the last one first."""
        return [row for row in reversed(self.rows) if row[0] < number]

    def head(self, number):
        """Return the last head line before a line, or None."""
        return next((row for row in self.before(number) if row[1][0] in HEADS), None)

    def owner(self, number, words):
        """Return the number of the line to which a line belongs, None if it has no place."""
        head = self.head(number)
        if head is None or words[0] not in HEADS[head[1][0]].split():
            return None
        outer = {"span": ("layer",), "label": ("record", "alert"), "expr": ("record", "alert")}.get(words[0])
        if outer is None or head[1][0] == "window":
            return head[0]
        return next((row[0] for row in self.before(number) if row[0] > head[0] and row[1][0] in outer), None)

    def form(self, words):
        """Return the problem of the words of a line, or None."""
        word, further = words[0], words[1:]
        if word == "route":
            sorts = "number" if further else ""
        else:
            sorts = FORMS[word]
        sorts = sorts.split()
        if sorts and sorts[-1].endswith(".."):
            sorts[-1:] = [sorts[-1][:-2]] * (len(further) - len(sorts) + 1)
        if len(sorts) != len(further):
            return "fields"
        return next((sort for sort, text in zip(sorts, further) if not re.fullmatch(SORTS[sort], text, re.ASCII)), None)

    def is_vector(self, number):
        """Tell whether the rest of a line is an expression of the kind vector."""
        try:
            return kind_of(parse(re.fullmatch("[ \t]*expr[ \t]+(.*?)[ \t]*", self.texts[number]).group(1))) == "vector"
        except BadExpression:
            return False

    def is_twice(self, number, words):
        """Tell whether a line stands there for the second time."""
        word = words[0]
        rows = [row for row in self.before(number) if row[1][0] == word]
        if word in ("week", "lookback", "store", "pager"):
            return bool(rows)
        if word == "route":
            return words == ["route"] and ["route"] in [row[1] for row in rows]
        rows = [row for row in rows if self.owner(*row) is not None and self.owner(*row) == self.owner(number, words)]
        if word == "label":
            return words[1] in [row[1][1] for row in rows if len(row[1]) > 1]
        return word in "group wait interval again mute by equal expr".split() and bool(rows)

    def problem(self, number, words):
        """Return the problem of a line, or None."""
        if words[0] not in FORMS and words[0] not in ("route", "expr"):
            return "unknown"
        if words[0] not in HEADS and self.owner(number, words) is None:
            return "place"
        found = ("fields" if len(words) == 1 else None) if words[0] == "expr" else self.form(words)
        if found is None and words[0] == "expr" and not self.is_vector(number):
            found = "expression"
        if found is None and self.is_twice(number, words):
            found = "twice"
        return found

    def problems(self):
        """Return the list of all problems."""
        found = [(number, self.problem(number, words)) for number, words in self.rows]
        found = [row for row in found if row[1] is not None]
        routes = [words for _, words in self.rows if words[0] == "route"]
        if "week" not in [words[0] for _, words in self.rows]:
            found.append((0, "missing"))
        if routes[:1] != [["route"]]:
            found.append((0, "missing"))
        for number, words in self.rows:
            needed = {"route": "by", "record": "expr", "alert": "expr"}.get(words[0])
            is_whole = len(words) == 1 if words[0] == "route" else self.problem(number, words) != "place"
            if needed is not None and is_whole:
                if not any(row[1][0] == needed and self.owner(*row) == number for row in self.rows):
                    found.append((number, "missing"))
        return sorted(found, key=lambda row: row[0])
