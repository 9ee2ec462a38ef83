"""Numbers, texts and labels as bytes; a row of bytes is a list.

What is taken from bytes is told with the place behind it, or None is told if it is not there.
"""

from watchfloor.matching import CHARACTERS


def put_number(n):
    """Return the bytes of a whole number from 0 on."""
    data = []
    while n > 127:
        data.append(128 + (n & 127))
        n = n >> 7
    data.append(n)
    return data


def put_integer(n):
    """Return the bytes of a whole number of any sign."""
    return put_number(2 * n if n >= 0 else -2 * n - 1)


def put_text(text):
    """Return the bytes of a text."""
    data = put_number(len(text))
    for character in text:
        data.extend(put_number(ord(character)))
    return data


def put_labels(labels):
    """Return the bytes of labels."""
    data = put_number(len(labels))
    for name, value in labels:
        data.extend(put_text(name))
        data.extend(put_text(value))
    return data


def take_number(data, at):
    """Take a whole number from 0 on, written in as few groups as possible."""
    number = 0
    weight = 1
    while at < len(data):
        group = data[at]
        at += 1
        number += (group & 127) * weight
        if group < 128:
            return None if group == 0 and weight > 1 else (number, at)
        weight = weight << 7
    return None


def take_integer(data, at):
    """Take a whole number of any sign."""
    taken = take_number(data, at)
    if taken is None:
        return None
    number, behind = taken
    if number & 1 == 1:
        return -(number + 1) // 2, behind
    return number // 2, behind


def take_text(data, at):
    """Take a text of characters that label values have."""
    taken = take_counted(take_character, data, at)
    if taken is None:
        return None
    return "".join(taken[0]), taken[1]


def take_character(data, at):
    """Take a character that label values have."""
    taken = take_number(data, at)
    if taken is None:
        return None
    for character in CHARACTERS:
        if ord(character) == taken[0]:
            return character, taken[1]
    return None


def take_labels(data, at):
    """Take labels, whose names need not ascend."""
    taken = take_counted(take_pair, data, at)
    if taken is None:
        return None
    return tuple(taken[0]), taken[1]


def take_pair(data, at):
    """Take the name and the value of a label."""
    taken = take_row((take_text, take_text), data, at)
    if taken is None:
        return None
    return tuple(taken[0]), taken[1]


def take_row(takers, data, at):
    """Take the list of what these functions take one after the other."""
    found = []
    for take in takers:
        taken = take(data, at)
        if taken is None:
            return None
        found.append(taken[0])
        at = taken[1]
    return found, at


def take_counted(take, data, at):
    """Take a number, and the list of so many things that a function takes behind it."""
    counted = take_number(data, at)
    if counted is None:
        return None
    many, behind = counted
    found = []
    while len(found) < many:
        taken = take(data, behind)
        if taken is None:
            return None
        found.append(taken[0])
        behind = taken[1]
    return found, behind
