"""Blocks of samples, and their bytes.

A block is a tuple of its start, its width and its series.
"""

from watchfloor.errors import NotABlock
from watchfloor.numbers import put_integer, put_labels, put_number, take_counted, take_integer, take_labels
from watchfloor.numbers import take_number, take_row
from watchfloor.samples import is_plain, series_of, spread


def put_block(block):
    """Return the bytes of a block."""
    start, width, series = block
    data = put_number(start) + put_number(width) + put_number(len(series))
    for labels, points in series:
        data.extend(put_labels(labels))
        data.extend(put_points(start, points))
    return data


def put_points(start, points):
    """Return the bytes of the points of a series in a block that begins at start, with their number."""
    data = put_number(len(points))
    least = start
    before = 0
    for time, value in points:
        data.extend(put_number(time - least))
        data.extend(put_integer(value - before))
        least = time + 1
        before = value
    return data


def take_block(data):
    """Return the block that has these bytes; raise NotABlock if none has."""
    block = block_in(data)
    if block is None:
        raise NotABlock("bytes that are not those of a block")
    return block


def block_in(data):
    """Return the block that has these bytes, or None."""
    taken = take_row((take_number, take_number, take_all_series), data, 0)
    if taken is None or taken[1] != len(data):
        return None
    start, width, steps = taken[0]
    block = (start, width, [(labels, points_of(start, rows)) for labels, rows in steps])
    return block if is_block(block) else None


def take_all_series(data, at):
    """Take the number of series and the series."""
    return take_counted(take_series, data, at)


def take_series(data, at):
    """Take the labels of a series and its steps: what its points add to the ones before."""
    return take_row((take_labels, take_steps), data, at)


def take_steps(data, at):
    """Take the number of points and the steps from each to the next."""
    return take_counted(take_step, data, at)


def take_step(data, at):
    """Take one step: a time beyond the least that is possible, and a change of the value."""
    return take_row((take_number, take_integer), data, at)


def points_of(start, rows):
    """Return the points with these steps in a block that begins at start."""
    points = []
    least = start
    value = 0
    for gap, change in rows:
        value += change
        points.append((least + gap, value))
        least += gap + 1
    return points


def is_block(block):
    """Tell whether a tuple is a block; the times of each series ascend."""
    start, width, series = block
    labels = [row[0] for row in series]
    if width < 1 or not series or labels != sorted(set(labels)):
        return False
    if not all(row[1] for row in series):
        return False
    return all(in_span(start, width, sample[1]) and is_plain(sample) for sample in spread(series))


def in_span(start, width, time):
    """Tell whether a time lies in a span."""
    return start <= time < start + width


def block_of(start, width, view):
    """Return the block with the samples of a view that lie in a span, or None if there are none."""
    series = series_of([sample for sample in view if in_span(start, width, sample[1])])
    if not series:
        return None
    return start, width, series


def samples_of(block):
    """Return the view of a block."""
    return spread(block[2])


def copy_of(block):
    """Return the same block, with lists of its own."""
    start, width, series = block
    return start, width, [(labels, list(points)) for labels, points in series]
