"""Operators over numbers and vectors."""

from watchfloor.expressions import ARITHMETIC_SIGNS, JOINING_SIGNS
from watchfloor.matching import only


def binary(sign, left, right):
    """Return the value of an operator for the values of its sides."""
    if sign in JOINING_SIGNS:
        return joined(sign, left, right)
    if isinstance(left, int) and isinstance(right, int):
        return computed(sign, left, right)
    rows = rows_of(left, right)
    if sign in ARITHMETIC_SIGNS:
        return [(labels, computed(sign, one, other)) for labels, one, other, kept in rows]
    return [(labels, kept) for labels, one, other, kept in rows if holds(sign, one, other)]


def rows_of(left, right):
    """Return the labels for which both sides have a value, with both and what a comparison keeps."""
    if isinstance(left, int):
        return [(labels, left, value, value) for labels, value in right]
    if isinstance(right, int):
        return [(labels, value, right, value) for labels, value in left]
    others = {labels: value for labels, value in right}
    return [(labels, value, others[labels], value) for labels, value in left if labels in others]


def computed(sign, one, other):
    """Return the result of an arithmetic sign."""
    if sign == "+":
        return one + other
    if sign == "-":
        return one - other
    return one * other


def holds(sign, one, other):
    """Tell whether a comparison holds."""
    if sign == "<":
        return one < other
    if sign == "<=":
        return one <= other
    if sign == ">":
        return one > other
    if sign == ">=":
        return one >= other
    if sign == "==":
        return one == other
    return one != other


def joined(sign, left, right):
    """Return the value of `or`, `and` or `unless`."""
    if sign == "or":
        return sorted(left + lacking(right, left))
    lacked = lacking(left, right)
    if sign == "unless":
        return lacked
    return lacking(left, lacked)


def lacking(vector, other):
    """Return the entries of a vector whose labels the other one does not have."""
    known = {labels: True for labels, value in other}
    return [(labels, value) for labels, value in vector if labels not in known]


def aggregate(word, names, vector):
    """Return the aggregation of a vector to the names."""
    groups = {}
    for labels, value in vector:
        groups.setdefault(only(labels, names), []).append(value)
    return [(labels, summed_up(word, groups[labels])) for labels in sorted(groups)]


def summed_up(word, values):
    """Return the value of an aggregation for the values of one entry."""
    if word == "sum":
        return sum(values)
    if word == "min":
        return min(values)
    if word == "max":
        return max(values)
    return len(values)
