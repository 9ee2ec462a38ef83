"""What selectors read."""

from watchfloor.matching import matches_all, value_of, without
from watchfloor.samples import series_of


def is_read(metric, matchers, width, time, sample):
    """Tell whether a selector with this width reads a sample at a time."""
    labels, taken, _ = sample
    if not time - width < taken <= time:
        return False
    return value_of(labels, "metric") == metric and matches_all(matchers, labels)


def windows(view, metric, matchers, width, time):
    """Return what a selector reads: for each entry its labels and the list of its values."""
    read = [sample for sample in view if is_read(metric, matchers, width, time, sample)]
    # Without their metric, labels can stand in another order than with it.
    return sorted([entry_of(labels, points) for labels, points in series_of(read)])


def entry_of(labels, points):
    """Return the labels of the entry of a series, and its values."""
    return without(labels, ("metric",)), [point[1] for point in points]


def over(word, values):
    """Return the value of a function over a range for these values."""
    if word == "sum_over":
        return sum(values)
    if word == "min_over":
        return min(values)
    if word == "max_over":
        return max(values)
    if word == "count_over":
        return len(values)
    if word == "increase":
        return sum([increase_of(before, after) for before, after in zip(values, values[1:])])
    return values[-1]


def increase_of(before, after):
    """Return the increase from one value to the next; a lesser one means that the counter began anew."""
    return after - before if after >= before else after
