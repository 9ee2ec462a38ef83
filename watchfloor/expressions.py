"""Expressions as values: what is one, its kind, and what it consists of."""

from watchfloor.matching import is_matcher, is_name
from watchfloor.samples import GREATEST_VALUE

OVER_WORDS = ("sum_over", "min_over", "max_over", "count_over", "last_over", "increase")
AGGREGATE_WORDS = ("sum", "min", "max", "count")
STRENGTHS = {
    "or": 1,
    "and": 2,
    "unless": 2,
    "<": 3,
    "<=": 3,
    ">": 3,
    ">=": 3,
    "==": 3,
    "!=": 3,
    "+": 4,
    "-": 4,
    "*": 5,
}
JOINING_SIGNS = ("or", "and", "unless")
ARITHMETIC_SIGNS = ("+", "-", "*")
MOST_SELECTORS = 6
MOST_OPERATORS = 8
MOST_MATCHERS = 6
MOST_NAMES = 6
LONGEST_SPAN = 1000


def kind_of(expression):
    """Return the kind of an expression: "number", "vector" or None."""
    head = expression[0]
    if head == "number":
        return "number"
    if head == "binary":
        return binary_kind(expression[1], kind_of(expression[2]), kind_of(expression[3]))
    if head == "aggregate":
        return aggregate_kind(kind_of(expression[3]))
    return "vector"


def binary_kind(sign, left, right):
    """Return the kind of a binary operator whose sides have these kinds."""
    if left is None or right is None:
        return None
    if sign in JOINING_SIGNS:
        return "vector" if left == right == "vector" else None
    if left == "vector" or right == "vector":
        return "vector"
    return "number" if sign in ARITHMETIC_SIGNS else None


def aggregate_kind(inner):
    """Return the kind of an aggregation whose inner expression has this kind."""
    return "vector" if inner == "vector" else None


def parts_of(expression):
    """Return the list of the expressions directly inside an expression, from the left."""
    if expression[0] == "binary":
        return [expression[2], expression[3]]
    if expression[0] == "aggregate":
        return [expression[3]]
    return []


def count_of(expression):
    """Return how many selectors and how many operators an expression has."""
    selectors = 1 if expression[0] in ("latest", "over") else 0
    operators = 1 if expression[0] in ("binary", "aggregate") else 0
    for part in parts_of(expression):
        more_selectors, more_operators = count_of(part)
        selectors += more_selectors
        operators += more_operators
    return selectors, operators


def metrics(expression):
    """Return the list of the metrics of an expression, each once, ascending."""
    found = []
    if expression[0] == "latest":
        found.append(expression[1])
    if expression[0] == "over":
        found.append(expression[2])
    for part in parts_of(expression):
        found.extend(metrics(part))
    return sorted(set(found))


def is_expression(expression):
    """Tell whether an expression keeps all limits that expressions have."""
    selectors, operators = count_of(expression)
    return selectors <= MOST_SELECTORS and operators <= MOST_OPERATORS and is_sound(expression)


def is_sound(expression):
    """Tell whether an expression and all its parts keep the limits of their own."""
    return is_sound_alone(expression) and all(is_sound(part) for part in parts_of(expression))


def is_sound_alone(expression):
    """Tell whether an expression keeps the limits, apart from those of its parts."""
    head = expression[0]
    if head == "number":
        return abs(expression[1]) <= GREATEST_VALUE
    if head == "latest":
        return is_selector(expression[1], expression[2])
    if head == "over":
        _, word, metric, matchers, span = expression
        return word in OVER_WORDS and is_selector(metric, matchers) and 1 <= span <= LONGEST_SPAN
    if head == "binary":
        return expression[1] in STRENGTHS
    if head == "aggregate":
        _, word, names, _ = expression
        return word in AGGREGATE_WORDS and len(names) <= MOST_NAMES and all(is_name(name) for name in names)
    return False


def is_selector(metric, matchers):
    """Tell whether a metric and matchers are those of a selector."""
    if not is_name(metric) or len(matchers) > MOST_MATCHERS:
        return False
    return all(is_matcher(matcher) and matcher[0] != "metric" for matcher in matchers)
