"""What is right in the parts of a setup, each entry by itself."""

from watchfloor.expressions import is_expression, kind_of
from watchfloor.matching import is_labels, is_matcher, is_name
from watchfloor.samples import LAST_TIME

RESERVED = "zzzzzzzzzzzzzzzzzzzz"
TIMES_OF_RULES = {"record": 0, "alert": 2}


def is_duration(number):
    """Tell whether a whole number is a duration."""
    return 0 <= number <= 1000


def is_person(person):
    """Tell whether a tuple is a person, apart from the name."""
    _, channels = person
    return 0 <= channels <= 20


def is_span(week, span):
    """Tell whether a tuple is a span of a week."""
    first, last = span
    return 0 <= first < last <= week


def is_layer(week, persons, layer):
    """Tell whether a tuple is a layer with members out of these persons."""
    members, start, shift, spans = layer
    if not 1 <= len(members) <= 10 or not all(member in persons for member in members):
        return False
    if not 0 <= start <= LAST_TIME or not 1 <= shift <= 1000:
        return False
    return all(is_span(week, span) for span in spans)


def is_standin(persons, standin):
    """Tell whether a tuple is a stand-in by one of these persons."""
    first, last, person = standin
    return 0 <= first < last <= LAST_TIME and person in persons


def is_schedule(week, persons, schedule):
    """Tell whether a tuple is a schedule, apart from its name."""
    _, layers, standins = schedule
    if len(layers) > 6 or len(standins) > 20:
        return False
    if not all(is_layer(week, persons, layer) for layer in layers):
        return False
    return all(is_standin(persons, standin) for standin in standins)


def is_policy(schedules, policy):
    """Tell whether a tuple is a policy over schedules with these names, apart from its own name."""
    _, levels = policy
    if not 1 <= len(levels) <= 6:
        return False
    return all(schedule in schedules and 0 <= after <= 1000 for schedule, after in levels)


def is_window(week, window):
    """Tell whether a tuple is a window, apart from its name."""
    _, spans = window
    return 1 <= len(spans) <= 8 and all(is_span(week, span) for span in spans)


def is_route(place, windows, policies, route):
    """Tell whether a tuple can be the route at a place, with windows and policies of these names."""
    parent, matchers, settings = route
    if place == 0:
        return parent is None and len(matchers) == 0 and are_settings(windows, policies, settings)
    if parent is None or not 0 <= parent < place:
        return False
    return are_matchers(matchers) and are_settings(windows, policies, settings)


def are_settings(windows, policies, settings):
    """Tell whether a tuple is the settings of a route."""
    group, wait, interval, again, mutes, policy = settings
    if not are_names(group) or not is_duration(wait):
        return False
    if not 1 <= interval <= 1000 or not interval <= again <= 1000:
        return False
    if len(mutes) > 6 or not all(mute in windows for mute in mutes):
        return False
    return policy in policies


def are_matchers(matchers):
    """Tell whether a tuple is the matchers of a route or of one side of a holdback."""
    if len(matchers) > 6:
        return False
    return all(is_matcher(matcher) and matcher[0] != RESERVED for matcher in matchers)


def are_names(names):
    """Tell whether a tuple is names of labels by which alerts are grouped or compared."""
    return len(names) <= 6 and all(is_name(name) and name != RESERVED for name in names)


def is_holdback(holdback):
    """Tell whether a tuple is a holdback."""
    source, target, equal = holdback
    return are_matchers(source) and are_matchers(target) and are_names(equal)


def is_group(group):
    """Tell whether a tuple is a group of rules, apart from its name."""
    _, every, offset, rules = group
    if not 1 <= every <= 1000 or not 0 <= offset < every:
        return False
    return len(rules) <= 12 and all(is_rule(rule) for rule in rules)


def is_rule(rule):
    """Tell whether a tuple is a rule."""
    word, name, expression, labels = rule[:4]
    if not is_name(name) or not is_expression(expression) or kind_of(expression) != "vector":
        return False
    if len(labels) > 6 or not is_labels(labels):
        return False
    if any(pair[0] in ("metric", "alert", RESERVED) for pair in labels):
        return False
    times = rule[4:]
    return len(times) == TIMES_OF_RULES.get(word) and all(is_duration(time) for time in times)


def is_store(store):
    """Tell whether a tuple is the settings of a store."""
    lateness, span, factor, levels = store
    return is_duration(lateness) and 1 <= span <= 1000 and 2 <= factor <= 10 and 0 <= levels <= 3
