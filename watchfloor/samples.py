"""Samples, views and series."""

from watchfloor.errors import ConflictingSamples
from watchfloor.matching import is_labels, matches_all

MOST_LABELS = 6
LAST_TIME = 10000
GREATEST_VALUE = 999999999999999


def is_plain(sample):
    """Tell whether a sample may come into a store."""
    labels, time, value = sample
    if len(labels) > MOST_LABELS or not is_labels(labels):
        return False
    return 0 <= time <= LAST_TIME and abs(value) <= GREATEST_VALUE


def view_of(samples):
    """Return the view of samples; raise ConflictingSamples if one contradicts an earlier one."""
    found = {}
    for place, (labels, time, value) in enumerate(samples):
        if found.setdefault((labels, time), value) != value:
            raise ConflictingSamples(place)
    return [(labels, time, found[labels, time]) for labels, time in sorted(found)]


def add_sample(view, sample):
    """Return a view with a sample; one with its labels and time that is there stays."""
    labels, time, _ = sample
    at = place_in(view, labels, time)
    if stands_at(view, at, labels, time):
        return list(view)
    return view[:at] + [sample] + view[at:]


def sample_at(view, labels, time):
    """Return the value of the sample with these labels and this time, or None."""
    at = place_in(view, labels, time)
    if stands_at(view, at, labels, time):
        return view[at][2]
    return None


def place_in(view, labels, time):
    """Return how many samples of a view come before these labels at this time."""
    low, high = 0, len(view)
    while low < high:
        middle = (low + high) // 2
        if view[middle][:2] < (labels, time):
            low = middle + 1
        else:
            high = middle
    return low


def stands_at(view, at, labels, time):
    """Tell whether the sample at a place of a view has these labels and this time."""
    return at < len(view) and view[at][:2] == (labels, time)


def newest(view):
    """Return the greatest time of a view, 0 for an empty one."""
    return max([sample[1] for sample in view], default=0)


def select(view, matchers, first, last):
    """Return the view of the samples that match and whose times are from first to last."""
    return [
        (labels, time, value)
        for labels, time, value in view
        if first <= time <= last and matches_all(matchers, labels)
    ]


def series_of(view):
    """Return the series of a view, each with its labels and its points."""
    series = []
    for labels, time, value in view:
        if not series or series[-1][0] != labels:
            series.append((labels, []))
        series[-1][1].append((time, value))
    return series


def spread(series):
    """Return the view of which these are the series."""
    return [(labels, time, value) for labels, points in series for time, value in points]
