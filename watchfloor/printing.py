"""The normal form of expressions."""

from watchfloor.expressions import STRENGTHS


def show(expression):
    """Return the normal form of an expression."""
    head = expression[0]
    if head == "number":
        return str(expression[1])
    if head == "latest":
        return selector_text(expression[1], expression[2])
    if head == "over":
        _, word, metric, matchers, span = expression
        return f"{word}({selector_text(metric, matchers)}[{span}])"
    if head == "aggregate":
        _, word, names, inner = expression
        return f"{word}{names_text(names)}({show(inner)})"
    _, sign, left, right = expression
    strength = STRENGTHS[sign]
    return f"{side_text(left, strength)} {sign} {side_text(right, strength + 1)}"


def side_text(expression, least):
    """Return the normal form of a side that needs brackets if it is weaker than `least`."""
    text = show(expression)
    if expression[0] == "binary" and STRENGTHS[expression[1]] < least:
        return f"({text})"
    return text


def names_text(names):
    """Return what stands between the word of an aggregation and its inner expression."""
    if not names:
        return ""
    shown = ", ".join(names)
    return f" by ({shown}) "


def selector_text(metric, matchers):
    """Return the normal form of a selector."""
    if not matchers:
        return metric
    shown = ", ".join([matcher_text(matcher) for matcher in matchers])
    return metric + "{" + shown + "}"


def matcher_text(matcher):
    """Return the normal form of a matcher."""
    name, values, inside = matcher
    strings = ", ".join([string_text(value) for value in values])
    if len(values) == 1:
        sign = "=" if inside else "!="
        return name + sign + strings
    test = "in" if inside else "not in"
    return f"{name} {test} ({strings})"


def string_text(value):
    """Return a text between quotes."""
    return '"' + value + '"'
