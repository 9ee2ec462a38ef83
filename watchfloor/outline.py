"""The outline of the text of a setup: its lines under their head lines, and what is wrong with them."""

from watchfloor.errors import BadExpression
from watchfloor.expressions import kind_of
from watchfloor.lines import check_words, words_of
from watchfloor.parsing import parse

BLANKS = " \t"
HEADS = (
    "week", "lookback", "store", "pager", "person", "schedule", "policy", "window", "holdback", "rules", "route",
)
UNDER_HEADS = {
    "schedule": ("layer", "span", "standin"),
    "policy": ("ring",),
    "window": ("span",),
    "route": ("match", "group", "wait", "interval", "again", "mute", "by"),
    "holdback": ("source", "target", "equal"),
    "rules": ("record", "alert", "label", "expr"),
}
RULES = ("record", "alert")
# Under these head lines such a line belongs to the last line before it with one of these words.
INNER = {
    ("schedule", "span"): ("layer",),
    ("rules", "label"): ("record", "alert"),
    ("rules", "expr"): ("record", "alert"),
}
ONCE_IN_TEXT = ("week", "lookback", "store", "pager")
ONCE_UNDER = ("group", "wait", "interval", "again", "mute", "by", "equal", "expr")


class Line:
    """A line that means something: its number, its words, its expression, and the lines that belong to it."""

    def __init__(self, number, words, expression):
        self.number = number
        self.words = words
        self.expression = expression
        self.under = []


class Outline:
    """The head lines of a text, with the lines that belong to them, and the problems of single lines.

    What a text, a head line or a rule can have once alone is noted as it occurs, by the number of
    the line under which it stands (0 for the text), its first word, and the name of a label.
    """

    def __init__(self):
        self.heads = []
        self.problems = []
        self._noted = {}

    def read(self, number, text):
        """Read one line of the text."""
        words = words_of(text)
        if words:
            problem = self.put(Line(number, words, expression_in(words, text)))
            if problem is not None:
                self.problems.append((number, problem))

    def put(self, line):
        """Put a line where it belongs, and return its problem or None."""
        word = line.words[0]
        problem = check_words(line.words)
        if problem == "unknown":
            return problem
        if word in HEADS:
            self.heads.append(line)
            key = key_in_text(line.words)
        else:
            holder = self.holder_for(word)
            if holder is None:
                return "place"
            holder.under.append(line)
            key = key_under(holder.number, line.words)
        twice = self.is_twice(key)
        if problem is None and word == "expr" and line.expression is None:
            problem = "expression"
        if problem is None and twice:
            problem = "twice"
        return problem

    def is_twice(self, key):
        """Note a line by its key, unless that is None, and tell whether one was noted by it before."""
        twice = key is not None and key in self._noted
        if key is not None:
            self._noted[key] = True
        return twice

    def holder_for(self, word):
        """Return the line to which a line with this first word belongs, if it comes next, or None."""
        head = self.heads[-1] if self.heads else None
        if head is None or word not in UNDER_HEADS.get(head.words[0], ()):
            return None
        inner = INNER.get((head.words[0], word))
        if inner is None:
            return head
        found = lines_under(head, inner)
        return found[-1] if found else None

    def missing(self):
        """Return the problems of what is missing."""
        words = [head.words for head in self.heads]
        routes = [row for row in words if row[0] == "route"]
        found = [] if "week" in [row[0] for row in words] else [(0, "missing")]
        if not routes or len(routes[0]) > 1:
            found.append((0, "missing"))
        for head in self.heads:
            if head.words == ["route"] and not lines_under(head, ("by",)):
                found.append((head.number, "missing"))
            for rule in lines_under(head, RULES):
                if not lines_under(rule, ("expr",)):
                    found.append((rule.number, "missing"))
        return found


def outline_of(text):
    """Return the outline of a text."""
    outline = Outline()
    for place, line in enumerate(text.split("\n")):
        outline.read(place + 1, line)
    return outline


def lines_under(line, words):
    """Return the lines that belong to a line and have one of these first words."""
    return [other for other in line.under if other.words[0] in words]


def expression_in(words, text):
    """Return the expression, of the kind vector, that a line tells, or None."""
    if words[0] != "expr":
        return None
    rest = text.strip(BLANKS)[len("expr"):].strip(BLANKS)
    try:
        expression = parse(rest)
    except BadExpression:
        return None
    return expression if kind_of(expression) == "vector" else None


def key_in_text(words):
    """Return by what a head line is noted that a text can have once alone, otherwise None."""
    if words[0] in ONCE_IN_TEXT or words == ["route"]:
        return 0, words[0], ""
    return None


def key_under(number, words):
    """Return by what a line is noted that the line with a number can have once alone, otherwise None."""
    if words[0] in ONCE_UNDER:
        return number, words[0], ""
    if words[0] == "label" and len(words) > 1:
        return number, "label", words[1]
    return None
