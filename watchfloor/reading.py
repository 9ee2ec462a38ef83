"""Which samples an expression reads."""

from watchfloor.expressions import parts_of
from watchfloor.matching import only, without
from watchfloor.windows import is_read


def selectors_of(expression, lookback):
    """Return the selectors of an expression, from the left.

    Each is a tuple of its metric, its matchers, its width, and the names of each aggregation
    around it, from the inside out.
    """
    if expression[0] == "latest":
        return [(expression[1], expression[2], lookback, ())]
    if expression[0] == "over":
        return [(expression[2], expression[3], expression[4], ())]
    found = []
    for part in parts_of(expression):
        found.extend(selectors_of(part, lookback))
    if expression[0] == "aggregate":
        names = expression[2]
        return [(metric, matchers, width, cuts + (names,)) for metric, matchers, width, cuts in found]
    return found


def reach(expression, lookback):
    """Return the greatest width of the selectors of an expression, 0 if it has none."""
    return max([selector[2] for selector in selectors_of(expression, lookback)], default=0)


def affected(expression, lookback, time):
    """Return from when on and before when a sample of a time can change the value, or None."""
    width = reach(expression, lookback)
    if width == 0:
        return None
    return time, time + width


def samples_read(expression, lookback, view, time):
    """Return the view of the samples that an expression reads at a time."""
    selectors = selectors_of(expression, lookback)
    return [sample for sample in view if is_read_by(selectors, time, sample)]


def samples_for(expression, lookback, view, time, labels):
    """Return the view of the samples that bear on the entry with these labels at a time."""
    selectors = selectors_of(expression, lookback)
    return [
        sample
        for sample in view
        if is_read_by(leading_to(selectors, sample[0], labels), time, sample)
    ]


def is_read_by(selectors, time, sample):
    """Tell whether some of these selectors reads a sample at a time."""
    return any(is_read(metric, matchers, width, time, sample) for metric, matchers, width, _ in selectors)


def leading_to(selectors, series, labels):
    """Return those of the selectors through which a series with these labels leads to an entry."""
    return [selector for selector in selectors if entry_labels(selector[3], series) == labels]


def entry_labels(cuts, series):
    """Return the labels of the entry to which a series leads through these aggregations."""
    labels = without(series, ("metric",))
    for names in cuts:
        labels = only(labels, names)
    return labels
