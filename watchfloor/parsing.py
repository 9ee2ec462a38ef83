"""From the text of an expression to the expression."""

from watchfloor.errors import BadExpression
from watchfloor.expressions import (
    AGGREGATE_WORDS,
    LONGEST_SPAN,
    MOST_MATCHERS,
    MOST_NAMES,
    MOST_OPERATORS,
    MOST_SELECTORS,
    OVER_WORDS,
    STRENGTHS,
    aggregate_kind,
    binary_kind,
)
from watchfloor.grammar import walk_along
from watchfloor.matching import MOST_VALUES
from watchfloor.steps import from_steps
from watchfloor.tokens import scan

DEEPEST = 20


def parse(text):
    """Return the expression of a text; raise BadExpression if it is none."""
    found = checked_tokens(text)
    # The depth is bounded before the reader follows the brackets by calls of its own.
    check_depth(found)
    reader = Reader(found)
    reader.read_expression(1)
    check_sizes(reader.marks, len(text))
    check_spans(reader.marks)
    check_kinds(reader.marks)
    return from_steps([mark[0] for mark in reader.marks])


def checked_tokens(text):
    """Return the tokens of a text if they are an expression by the grammar."""
    found, fault = scan(text)
    walk, wrong = walk_along(found)
    if wrong is not None:
        raise BadExpression("token", wrong[2])
    if fault is not None:
        raise BadExpression(fault[0], fault[1])
    if "END" not in walk.choices():
        raise BadExpression("end", len(text))
    return found


def check_depth(found):
    """Raise BadExpression if a round bracket stands in too many others."""
    depth = 0
    for _, value, place in found:
        if value == "(":
            if depth == DEEPEST:
                raise BadExpression("deep", place)
            depth += 1
        if value == ")":
            depth -= 1


class Reader:
    """Reads tokens that are an expression by the grammar.

    It leaves `marks`: the steps of the expression, each with the place at which a fault of it
    is told: the number in square brackets, the sign, or the word of the aggregation.
    """

    def __init__(self, found):
        self.found = found
        self.at = 0
        self.marks = []

    def peek(self):
        """Return the value of the next token, the empty text behind the last one."""
        if self.at == len(self.found):
            return ""
        return self.found[self.at][1]

    def take(self):
        """Return the next token and go on behind it."""
        token = self.found[self.at]
        self.at += 1
        return token

    def read_expression(self, weakest):
        """Read operands as long as operators of at least this strength are between them."""
        self.read_operand()
        while STRENGTHS.get(self.peek(), 0) >= weakest:
            _, sign, place = self.take()
            self.read_expression(STRENGTHS[sign] + 1)
            self.marks.append((("binary", sign), place))

    def read_operand(self):
        """Read one operand."""
        kind, value, place = self.take()
        if kind == "number":
            self.marks.append((("number", value), place))
        elif value == "-":
            self.marks.append((("number", -self.take()[1]), place))
        elif value == "(":
            self.read_expression(1)
            self.take()
        elif value in OVER_WORDS and self.peek() == "(":
            self.read_over(value)
        elif value in AGGREGATE_WORDS and self.peek() in ("by", "("):
            self.read_aggregate(value, place)
        else:
            self.marks.append((("latest", value, self.read_matchers()), place))

    def read_over(self, word):
        """Read a function over a range behind its word."""
        self.take()
        metric = self.take()[1]
        matchers = self.read_matchers()
        self.take()
        _, span, place = self.take()
        self.take()
        self.take()
        self.marks.append((("over", word, metric, matchers, span), place))

    def read_aggregate(self, word, place):
        """Read an aggregation behind its word."""
        names = ()
        if self.peek() == "by":
            self.take()
            names = self.read_list()
        self.take()
        self.read_expression(1)
        self.take()
        self.marks.append((("aggregate", word, names), place))

    def read_matchers(self):
        """Read the matchers of a selector behind its metric, if it has any."""
        found = []
        if self.peek() == "{":
            self.take()
            while self.peek() != "}":
                found.append(self.read_matcher())
                if self.peek() == ",":
                    self.take()
            self.take()
        return tuple(found)

    def read_matcher(self):
        """Read one matcher."""
        name = self.take()[1]
        test = self.take()[1]
        if test in ("=", "!="):
            return name, (self.take()[1],), test == "="
        if test == "not":
            self.take()
        return name, self.read_list(), test == "in"

    def read_list(self):
        """Read words or strings in round brackets."""
        found = []
        self.take()
        while self.peek() != ")":
            found.append(self.take()[1])
            if self.peek() == ",":
                self.take()
        self.take()
        return tuple(found)


def check_sizes(marks, end):
    """Raise BadExpression if there is more of something than an expression can have."""
    heads = [mark[0][0] for mark in marks]
    if heads.count("latest") + heads.count("over") > MOST_SELECTORS:
        raise BadExpression("many", end)
    if heads.count("binary") + heads.count("aggregate") > MOST_OPERATORS:
        raise BadExpression("many", end)
    for step, _ in marks:
        if is_large(step):
            raise BadExpression("many", end)


def is_large(step):
    """Tell whether a step has too many matchers, values of a matcher, or names."""
    if step[0] == "aggregate":
        return len(step[2]) > MOST_NAMES
    if step[0] not in ("latest", "over"):
        return False
    matchers = step[2] if step[0] == "latest" else step[3]
    return len(matchers) > MOST_MATCHERS or any(len(matcher[1]) > MOST_VALUES for matcher in matchers)


def check_spans(marks):
    """Raise BadExpression for the first span that is too short or too long."""
    for step, place in marks:
        if step[0] == "over" and not 1 <= step[4] <= LONGEST_SPAN:
            raise BadExpression("span", place)


def check_kinds(marks):
    """Raise BadExpression for the first operator that has no kind."""
    kinds = []
    for step, place in marks:
        if step[0] == "number":
            kind = "number"
        elif step[0] == "binary":
            right = kinds.pop()
            kind = binary_kind(step[1], kinds.pop(), right)
        elif step[0] == "aggregate":
            kind = aggregate_kind(kinds.pop())
        else:
            kind = "vector"
        if kind is None:
            raise BadExpression("kinds", place)
        kinds.append(kind)
