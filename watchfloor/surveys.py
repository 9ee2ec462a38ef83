"""Answers about all alerts, found by the few kinds of them that matchers tell apart."""

from watchfloor.errors import TooManySamples
from watchfloor.matching import matches_all, with_label
from watchfloor.routes import end_of, way

MOST_ALERTS = 300


def sample_alerts(matchers):
    """Return the list of the sample alerts of matchers; raise TooManySamples if there are too many."""
    names = once([matcher[0] for matcher in matchers])
    rows = [choices_of(name, matchers) for name in names]
    many = 1
    for row in rows:
        many = many * len(row)
    if many > MOST_ALERTS:
        raise TooManySamples("more sample alerts than are made in one call")
    alerts = [()]
    for name, row in zip(names, rows):
        alerts = [with_label(labels, name, value) for labels in alerts for value in row]
    return alerts


def once(things):
    """Return a list of things, each once, in the order in which they first occur."""
    return list({thing: True for thing in things})


def choices_of(name, matchers):
    """Return the values of a name that sample alerts have; the empty text stands for no such label."""
    values = once([value for matcher in matchers if matcher[0] == name for value in matcher[1]])
    found = [""] + [value for value in values if value != ""]
    if "" in values:
        found.append(unused(values))
    return found


def unused(values):
    """Return the first of `x`, `xx`, `xxx` and so on that is none of these values."""
    text = "x"
    while text in values:
        text += "x"
    return text


def considered(lists, must):
    """Return the sample alerts for the matchers `must` and those of lists of routes that match all of `must`."""
    matchers = list(must)
    for routes in lists:
        for route in routes:
            matchers.extend(route[1])
    return [labels for labels in sample_alerts(matchers) if matches_all(must, labels)]


def survey(routes, must):
    """Return for each route which alert first ends there, which first goes through it, and its blockers."""
    alerts = considered([routes], must)
    ways = [way(routes, labels) for labels in alerts]
    found = []
    for number in range(len(routes)):
        ending = [labels for labels, numbers in zip(alerts, ways) if numbers[-1] == number]
        through = [labels for labels, numbers in zip(alerts, ways) if number in numbers]
        blockers = [] if through else blockers_of(routes, number, alerts)
        found.append((first_of(ending), first_of(through), blockers))
    return found


def first_of(things):
    """Return the first of a list, or None."""
    return things[0] if things else None


def blockers_of(routes, number, alerts):
    """Return the numbers of the routes that take every one of the alerts that could go through a route."""
    inner = inside(routes, number)
    rivals = rivals_of(routes, inner)
    coming = [labels for labels in alerts if matching(routes, inner, labels) == inner]
    takers = [matching(routes, rivals, labels) for labels in coming]
    kept = rivals
    for rival in rivals:
        others = [other for other in kept if other != rival]
        if all(have_common(row, others) for row in takers):
            kept = others
    return kept


def inside(routes, number):
    """Return the numbers of a route and the routes around it other than the root."""
    found = []
    while number != 0:
        found.append(number)
        number = routes[number][0]
    return found


def rivals_of(routes, inner):
    """Return the numbers, ascending, of the routes that stand before one of these and have its parent."""
    found = []
    for at in inner:
        found.extend([number for number in range(at) if routes[number][0] == routes[at][0]])
    return sorted(set(found))


def matching(routes, numbers, labels):
    """Return those of the numbers whose routes have matchers that an alert matches."""
    return [number for number in numbers if matches_all(routes[number][1], labels)]


def have_common(numbers, others):
    """Tell whether two lists have a number in common."""
    return any(number in others for number in numbers)


def difference(routes, others, must):
    """Return the first considered alert that ends at unequal settings in two lists of routes, or None."""
    for labels in considered([routes, others], must):
        if routes[end_of(routes, labels)][2] != others[end_of(others, labels)][2]:
            return labels
    return None
