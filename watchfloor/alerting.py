"""What an evaluation makes of one alert of a rule, and the labels of what rules make.

The times of an alert are a tuple: since when its condition has held, since when it fires (None
if it does not fire), and when its condition held last.
"""

from watchfloor.matching import with_label, without


def step(hold, keep, time, holds, times):
    """Return the times of an alert after an evaluation at a time, or None if there is no alert then."""
    if holds:
        return held_times(hold, time, times)
    if times is None:
        return None
    _, fired, held = times
    if fired is not None and time < held + keep:
        return times
    return None


def held_times(hold, time, times):
    """Return the times of an alert after an evaluation at which its condition held."""
    since, fired = (time, None) if times is None else times[:2]
    if fired is None and since + hold <= time:
        fired = time
    return since, fired, time


def times_of(hold, keep, evaluations):
    """Return the times of an alert after several evaluations, beginning without an alert."""
    times = None
    for time, holds in evaluations:
        times = step(hold, keep, time, holds, times)
    return times


def alert_labels(name, labels, entry):
    """Return the labels of the alert to which an entry leads by an alert rule with a name and labels."""
    return with_label(rule_labels(labels, entry), "alert", name)


def record_labels(name, labels, entry):
    """Return the labels of the sample that a recording rule with a name and labels makes of an entry."""
    return with_label(rule_labels(labels, entry), "metric", name)


def rule_labels(labels, entry):
    """Return the labels of an entry without the metric, with the labels of a rule."""
    found = without(entry, ("metric",))
    for name, value in labels:
        found = with_label(found, name, value)
    return found
