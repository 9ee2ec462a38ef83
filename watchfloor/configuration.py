"""Texts of setups: what is wrong with them, reading and writing."""

from watchfloor.building import heads_with, setup_of
from watchfloor.errors import BadConfiguration, BadSetup
from watchfloor.lines import EMPTY_VALUE
from watchfloor.outline import outline_of
from watchfloor.printing import show

HEADS_OF_PARTS = {
    "week": "week",
    "people": "person",
    "schedules": "schedule",
    "policies": "policy",
    "windows": "window",
    "routes": "route",
    "holdbacks": "holdback",
    "groups": "rules",
    "replicas": "pager",
    "pause": "pager",
    "down": "pager",
    "store": "store",
    "lookback": "lookback",
}


def problems_of(text):
    """Return the list of the problems of a text, ascending by the numbers of the lines."""
    return examined(text)[0]


def read_setup(text):
    """Return the setup of a text; raise BadConfiguration with its problems if it has some."""
    problems, made = examined(text)
    if problems:
        raise BadConfiguration(problems)
    return made


def examined(text):
    """Return the problems of a text, and its setup, which is None if there are problems."""
    outline = outline_of(text)
    # What is missing stands behind the problem of the same line, because the order of equals stays.
    problems = sorted(outline.problems + outline.missing(), key=lambda problem: problem[0])
    if problems:
        return problems, None
    try:
        made = setup_of(outline)
    except BadSetup as bad:
        return [(line_of_entry(outline, bad.part, bad.place), bad.part)], None
    return [], made


def line_of_entry(outline, part, place):
    """Return the number of the head line of the entry at a place of a part, 0 if it is not given."""
    heads = heads_with(outline, HEADS_OF_PARTS[part])
    return heads[place].number if heads else 0


def write_setup(setup):
    """Return the normal text of a setup."""
    rows = [
        ["week", setup.week],
        ["lookback", setup.lookback],
        ["store"] + list(setup.store),
        ["pager", setup.replicas, setup.pause, setup.down],
    ]
    rows.extend([["person", name, channels] for name, channels in setup.people])
    for schedule in setup.schedules:
        rows.extend(schedule_rows(schedule))
    for name, levels in setup.policies:
        rows.append(["policy", name])
        rows.extend([["ring", schedule, after] for schedule, after in levels])
    for name, spans in setup.windows:
        rows.append(["window", name])
        rows.extend(span_rows(spans))
    for route in setup.routes:
        rows.extend(route_rows(route))
    for source, target, equal in setup.holdbacks:
        rows.append(["holdback"])
        rows.extend(matcher_rows("source", source) + matcher_rows("target", target))
        rows.append(["equal"] + list(equal))
    for name, every, offset, rules in setup.groups:
        rows.append(["rules", name, every, offset])
        for rule in rules:
            rows.extend(rule_rows(rule))
    return "".join([" ".join([str(word) for word in row]) + "\n" for row in rows])


def span_rows(spans):
    """Return the words of the lines of spans."""
    return [["span", first, last] for first, last in spans]


def schedule_rows(schedule):
    """Return the words of the lines of a schedule."""
    name, layers, standins = schedule
    rows = [["schedule", name]]
    for members, start, shift, spans in layers:
        rows.append(["layer", start, shift] + list(members))
        rows.extend(span_rows(spans))
    rows.extend([["standin", person, first, last] for first, last, person in standins])
    return rows


def route_rows(route):
    """Return the words of the lines of a route."""
    parent, matchers, (group, wait, interval, again, mutes, policy) = route
    rows = [["route"] if parent is None else ["route", parent]]
    rows.extend(matcher_rows("match", matchers))
    rows.append(["group"] + list(group))
    rows.extend([["wait", wait], ["interval", interval], ["again", again]])
    rows.append(["mute"] + list(mutes))
    rows.append(["by", policy])
    return rows


def matcher_rows(word, matchers):
    """Return the words of the lines of matchers, with this first word."""
    return [[word, name, "in" if inside else "not"] + value_words(values) for name, values, inside in matchers]


def value_words(values):
    """Return the words of values."""
    return [value if value != "" else EMPTY_VALUE for value in values]


def rule_rows(rule):
    """Return the words of the lines of a rule."""
    word, name, expression, labels = rule[:4]
    rows = [[word, name] + list(rule[4:]), ["expr", show(expression)]]
    rows.extend([["label", label, value] for label, value in labels])
    return rows
