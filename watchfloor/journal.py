"""The journal of a floor: a line for each deed, and a floor made of such lines again."""

from watchfloor.errors import BadLine, WatchError
from watchfloor.floor import Floor
from watchfloor.matching import is_matcher
from watchfloor.samples import LAST_TIME
from watchfloor.tokens import DIGITS

MOST_DIGITS = 15


def journal(floor):
    """Return the journal of a floor."""
    return "".join([line_of(deed) + "\n" for deed in floor.deeds()])


def line_of(deed):
    """Return the line of a deed, without its newline."""
    return " ".join([deed[0]] + fields_of(deed))


def fields_of(deed):
    """Return the list of the fields of a deed behind its first one."""
    word = deed[0]
    if word == "take":
        return [sample_text(sample) for sample in deed[1]]
    if word == "tick":
        _, missed, up, down = deed
        counts = [f"{person}={count}" for person, count in down if count > 0]
        return [list_text([str(number) for number in up]), list_text(missed), list_text(counts)]
    if word == "silence":
        _, matchers, first, last = deed
        return [str(first), str(last)] + [matcher_text(matcher) for matcher in matchers]
    return [str(part) for part in deed[1:]]


def list_text(items):
    """Return the field of a list of texts."""
    return ",".join(items) if items else "-"


def sample_text(sample):
    """Return the field of a sample."""
    labels, time, value = sample
    pairs = ",".join([f"{name}={text}" for name, text in labels])
    return f"{pairs}@{time}:{value}"


def matcher_text(matcher):
    """Return the field of a matcher."""
    name, values, inside = matcher
    return name + ("=" if inside else "!=") + "|".join(values)


def replay(setup, text):
    """Return a floor to which the deeds of a journal were done, and how many characters were read."""
    floor = Floor(setup)
    end = text.rfind("\n") + 1
    for place, line in enumerate(text[:end].split("\n")[:-1]):
        deed = deed_of(line)
        if deed is None or line_of(deed) != line or not is_done(floor, deed):
            raise BadLine(place + 1)
    return floor, end


def is_done(floor, deed):
    """Do a deed to a floor, and tell whether the floor took it just as it is told."""
    try:
        do_deed(floor, deed)
    except WatchError:
        return False
    return floor.deeds()[-1] == deed


def do_deed(floor, deed):
    """Do a deed to a floor."""
    word = deed[0]
    if word == "take":
        floor.take(deed[1])
    elif word == "tick":
        floor.tick(deed[1], deed[2], deed[3])
    elif word == "sync":
        floor.sync()
    elif word == "seal":
        floor.seal()
    elif word == "compact":
        floor.compact()
    elif word == "retain":
        floor.retain(deed[1])
    elif word == "crash":
        floor.crash()
    elif word == "silence":
        floor.silence(deed[1], deed[2], deed[3])
    elif word == "stand_in":
        floor.stand_in(deed[1], deed[2], deed[3], deed[4])
    else:
        floor.acknowledge(deed[1], deed[2])


def deed_of(line):
    """Return the deed that a line tells, or None if it tells none.

    A line that is not just the line of this deed can still tell it.
    """
    fields = line.split(" ")
    word = fields[0]
    many = len(fields)
    if word == "take":
        return whole((word, row_of([sample_of(field) for field in fields[1:]])))
    if word == "tick" and many == 4:
        numbers = row_of([number_of(item) for item in items_of(fields[1])])
        counts = row_of([count_of(item) for item in items_of(fields[3])])
        return whole((word, tuple(items_of(fields[2])), numbers, counts))
    if word in ("sync", "seal", "compact", "crash") and many == 1:
        return (word,)
    if word == "retain" and many == 2:
        return whole((word, time_of(fields[1])))
    if word == "silence" and many >= 3:
        matchers = row_of([matcher_of(field) for field in fields[3:]])
        return whole((word, matchers, time_of(fields[1]), time_of(fields[2])))
    if word == "stand_in" and many == 5:
        return whole((word, fields[1], time_of(fields[2]), time_of(fields[3]), fields[4]))
    if word == "acknowledge" and many == 3:
        return whole((word, number_of(fields[1]), fields[2]))
    return None


def whole(parts):
    """Return a tuple of parts, or None if one of them is None."""
    return None if None in parts else parts


def row_of(items):
    """Return a tuple of the items of a list, or None if one of them is None."""
    return whole(tuple(items))


def items_of(field):
    """Return the items of the list in a field."""
    return [] if field == "-" else field.split(",")


def number_of(text):
    """Return the number that a text tells, or None."""
    if not 1 <= len(text) <= MOST_DIGITS or not all(character in DIGITS for character in text):
        return None
    return int(text)


def time_of(text):
    """Return the time that a text tells, or None."""
    number = number_of(text)
    return None if number is None or number > LAST_TIME else number


def integer_of(text):
    """Return the number, perhaps a negative one, that a text tells, or None."""
    if text[:1] != "-":
        return number_of(text)
    number = number_of(text[1:])
    return None if number is None else -number


def count_of(text):
    """Return the person and the count that a text tells, or None."""
    person, _, count = text.partition("=")
    return whole((person, number_of(count)))


def sample_of(text):
    """Return the sample that a text tells, or None."""
    pairs, _, rest = text.partition("@")
    time, _, value = rest.partition(":")
    labels = [pair_of(pair) for pair in pairs.split(",")] if pairs != "" else []
    return whole((tuple(labels), time_of(time), integer_of(value)))


def pair_of(text):
    """Return the name and the value that a text tells."""
    name, _, value = text.partition("=")
    return name, value


def matcher_of(text):
    """Return the matcher that a text tells, or None."""
    name, _, values = text.partition("=")
    inside = name[-1:] != "!"
    matcher = (name if inside else name[:-1], tuple(values.split("|")), inside)
    return matcher if is_matcher(matcher) else None
