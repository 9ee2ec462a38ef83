"""The bytes of batches of samples, and of a log, which is batches one after the other."""

from watchfloor.numbers import put_integer, put_labels, put_number, take_counted, take_integer, take_labels
from watchfloor.numbers import take_number, take_row
from watchfloor.samples import is_plain


def put_batch(samples):
    """Return the bytes of a batch."""
    data = put_number(len(samples))
    for labels, time, value in samples:
        data.extend(put_labels(labels))
        data.extend(put_number(time))
        data.extend(put_integer(value))
    return data


def put_log(batches):
    """Return the bytes of a log."""
    data = []
    for samples in batches:
        data.extend(put_batch(samples))
    return data


def take_log(data):
    """Return the list of the whole batches at the beginning of bytes, and how many bytes are left over."""
    batches = []
    at = 0
    taken = take_batch(data, at)
    while taken is not None:
        samples, at = taken
        batches.append(samples)
        taken = take_batch(data, at)
    return batches, len(data) - at


def take_batch(data, at):
    """Take a batch, as what is taken in watchfloor.numbers."""
    taken = take_counted(take_sample, data, at)
    if taken is None or not taken[0]:
        return None
    return taken if all(is_plain(sample) for sample in taken[0]) else None


def take_sample(data, at):
    """Take a sample, which need not be plain."""
    taken = take_row((take_labels, take_number, take_integer), data, at)
    if taken is None:
        return None
    return tuple(taken[0]), taken[1]
