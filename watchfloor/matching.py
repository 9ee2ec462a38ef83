"""Names, labels and matchers."""

from watchfloor.errors import InvalidArgument

LETTERS = "abcdefghijklmnopqrstuvwxyz"
CHARACTERS = "abcdefghijklmnopqrstuvwxyz_0123456789"
LONGEST_WORD = 20
MOST_VALUES = 6


def is_name(text):
    """Tell whether a text is a name."""
    return is_value(text) and text[0] in LETTERS


def is_value(text):
    """Tell whether a text is a label value."""
    return 1 <= len(text) <= LONGEST_WORD and all(character in CHARACTERS for character in text)


def is_labels(labels):
    """Tell whether pairs are labels: names strictly ascending, each with a label value."""
    names = [pair[0] for pair in labels]
    if names != sorted(set(names)):
        return False
    return all(is_name(pair[0]) and is_value(pair[1]) for pair in labels)


def is_matcher(matcher):
    """Tell whether a tuple is a matcher."""
    name, values, _ = matcher
    if not is_name(name) or not 1 <= len(values) <= MOST_VALUES:
        return False
    return all(value == "" or is_value(value) for value in values)


def labels_of(pairs):
    """Return the labels with these pairs; raise InvalidArgument for the first bad pair."""
    found = {}
    for name, value in pairs:
        if not is_name(name):
            raise InvalidArgument("name")
        if not is_value(value):
            raise InvalidArgument("value")
        if name in found:
            raise InvalidArgument("twice")
        found[name] = value
    return tuple(sorted(found.items()))


def value_of(labels, name):
    """Return the value of a name in labels, the empty text if it does not occur."""
    for other, value in labels:
        if other == name:
            return value
    return ""


def with_label(labels, name, value):
    """Return labels with this value of the name; without the name for the empty text."""
    others = list(without(labels, (name,)))
    if value != "":
        others.append((name, value))
    return tuple(sorted(others))


def without(labels, names):
    """Return labels without the names."""
    return tuple([(name, value) for name, value in labels if name not in names])


def only(labels, names):
    """Return labels cut to the names."""
    return tuple([(name, value) for name, value in labels if name in names])


def matches(matcher, labels):
    """Tell whether labels match a matcher."""
    name, values, inside = matcher
    return (value_of(labels, name) in values) == inside


def matches_all(matchers, labels):
    """Tell whether labels match all matchers."""
    return all(matches(matcher, labels) for matcher in matchers)
