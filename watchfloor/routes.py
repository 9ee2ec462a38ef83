"""Where alerts go: routes, groups and holdbacks."""

from watchfloor.matching import matches, matches_all, only, value_of


def way(routes, labels):
    """Return the numbers of the routes that an alert goes through, from the root on."""
    found = [0]
    for number, (parent, matchers, _) in enumerate(routes):
        # A route stands behind its parent, so that going on never leads back.
        if parent == found[-1] and matches_all(matchers, labels):
            found.append(number)
    return found


def end_of(routes, labels):
    """Return the number of the route at which an alert ends."""
    return way(routes, labels)[-1]


def settings_of(routes, labels):
    """Return the settings of the route at which an alert ends."""
    return routes[end_of(routes, labels)][2]


def refusals(routes, labels):
    """Return for each route of the way of an alert which routes refused it there, and by which matcher."""
    through = way(routes, labels)
    ends = through[1:] + [len(routes)]
    return [(number, refusing(routes, labels, number, end)) for number, end in zip(through, ends)]


def refusing(routes, labels, parent, end):
    """Return the routes before `end` with this parent, each with the place of its first matcher that refuses."""
    return [
        (number, first_refusal(matchers, labels))
        for number, (above, matchers, _) in enumerate(routes[:end])
        if above == parent
    ]


def first_refusal(matchers, labels):
    """Return the place of the first matcher that labels do not match, or None."""
    for place, matcher in enumerate(matchers):
        if not matches(matcher, labels):
            return place
    return None


def group_of(routes, labels):
    """Return the group of an alert: the number of the route at which it ends, and labels."""
    number = end_of(routes, labels)
    return number, only(labels, routes[number][2][0])


def holds_back(holdbacks, labels, other):
    """Tell whether by some holdback the alert with these labels holds back another one."""
    return labels != other and any(holds_back_by(holdback, labels, other) for holdback in holdbacks)


def holds_back_by(holdback, labels, other):
    """Tell whether a holdback is about these two alerts."""
    source, target, equal = holdback
    if not matches_all(source, labels) or not matches_all(target, other):
        return False
    return all(value_of(labels, name) == value_of(other, name) for name in equal)
