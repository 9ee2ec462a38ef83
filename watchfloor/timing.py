"""When groups of rules are due, and how long it takes until an alert fires."""


def is_due(every, offset, time):
    """Tell whether a group of rules is due at a time."""
    return time % every == offset


def next_due(every, offset, time):
    """Return the first time, at or after a time, at which a group of rules is due."""
    return time + (offset - time) % every


def due_times(every, offset, first, last):
    """Return the list of the times from first on and before last at which a group of rules is due."""
    return list(range(next_due(every, offset, first), last, every))


def intervals_of(every, hold):
    """Return the number of intervals that a hold takes, rounded up."""
    return (hold + every - 1) // every


def least_delay(every, hold):
    """Return the least delay of a rule with a hold, if no evaluation is missed."""
    return every * intervals_of(every, hold)


def greatest_delay(every, hold, missed):
    """Return the greatest delay of a rule with a hold, if at most so many evaluations in a row are missed."""
    delay = (missed + 1) * every - 1
    if hold != 0:
        delay += every * (missed + intervals_of(every, hold))
    return delay
