"""Values of expressions at times."""

from watchfloor.errors import TooManyTimes
from watchfloor.vectors import aggregate, binary
from watchfloor.windows import over, windows

MOST_TIMES = 200


def value_at(expression, lookback, view, time):
    """Return the value of an expression at a time: a whole number or a vector."""
    head = expression[0]
    if head == "number":
        return expression[1]
    if head == "latest":
        return entries("last_over", windows(view, expression[1], expression[2], lookback, time))
    if head == "over":
        _, word, metric, matchers, span = expression
        return entries(word, windows(view, metric, matchers, span, time))
    if head == "aggregate":
        return aggregate(expression[1], expression[2], value_at(expression[3], lookback, view, time))
    left = value_at(expression[2], lookback, view, time)
    right = value_at(expression[3], lookback, view, time)
    return binary(expression[1], left, right)


def entries(word, read):
    """Return the vector of a function over a range for what a selector reads."""
    return [(labels, over(word, values)) for labels, values in read]


def values_between(expression, lookback, view, first, last, step):
    """Return the times from first to last, in steps, each with the value of an expression."""
    times = range(first, last + 1, step)
    if len(times) > MOST_TIMES:
        raise TooManyTimes("more times than are computed in one call")
    return [(time, value_at(expression, lookback, view, time)) for time in times]
