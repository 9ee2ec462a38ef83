"""What a pager decides at a tick, step by step.

A run is a pair of the labels of an alert and the time since which it has fired.
"""

from watchfloor.matching import matches_all
from watchfloor.routes import holds_back


def runs_of(old, now, firing):
    """Return the runs of the alerts that fire now, ascending; those that fired before go on."""
    since = {labels: begun for labels, begun in old}
    return sorted([(labels, since.get(labels, now)) for labels in firing])


def is_silenced(silences, labels, time):
    """Tell whether one of the silences is about an alert at a time."""
    return any(first <= time < last and matches_all(matchers, labels) for matchers, first, last in silences)


def is_held(holdbacks, runs, reached, labels):
    """Tell whether an alert is held back by one of the runs about which somebody was reached."""
    known = {run: True for run in reached}
    return any(run in known and holds_back(holdbacks, run[0], labels) for run in runs)


def due(settings, entry, runs):
    """Return the time at which a group with these pageable runs is due."""
    _, wait, interval, again, _, _ = settings
    if entry is None:
        return min([begun for _, begun in runs]) + wait
    time, paged = entry
    if all(run in paged for run in runs):
        return time + again
    return time + interval


def worker_for(pause, up, due_time, now):
    """Return the number of the worker who pages a group that is due at a time, or None."""
    return min([number for number in up if due_time + number * pause <= now], default=None)
