"""At which times pages about an alert are forced, and at which they can be, precede and fail.

The settings are those of the route at which the alert ends.
"""

from watchfloor.escalation import is_muted, plan, unmuted_from


class Forcing:
    """When pages of one route are forced.

    Until when each time of the week is muted is kept once it was found, because an analysis
    asks for it again and again.
    """

    def __init__(self, setup, settings):
        self._setup = setup
        self._mutes = settings[4]
        self._slack = slack(setup)
        self._ends = {}

    def free_from(self, time):
        """Return the first time, at or after a time, that is not muted, or None."""
        at = time % self._setup.week
        if at not in self._ends:
            self._ends[at] = unmuted_from(self._setup, self._mutes, at)
        end = self._ends[at]
        return None if end is None else time - at + end

    def forced_from(self, due, first):
        """Return the first time, from a first one on, at which a page due at a time is forced, or None."""
        return self.free_from(max(first, due + self._slack))

    def is_forced(self, due, first, last):
        """Tell whether a page due at a time is forced at some time from a first one on and before a last one."""
        forced = self.forced_from(due, first)
        return forced is not None and forced < last


def slack(setup):
    """Return how much later than due a page can be if the last worker alone is up."""
    return (setup.replicas - 1) * setup.pause


def is_forced(setup, settings, due, first, last):
    """Tell whether a page due at a time is forced at some time from a first one on and before a last one."""
    return Forcing(setup, settings).is_forced(due, first, last)


def can_fail(setup, settings, end, time):
    """Tell whether a page at a time need not reach anybody up to an end."""
    return not any(sure and ringing <= end for ringing, _, sure in plan(setup, settings[5], time))


def can_precede(setup, settings, start, time):
    """Tell whether the last page before an alert begins at `start` can be at a time."""
    _, wait, _, again, mutes, _ = settings
    if not wait <= time < start or is_muted(setup, mutes, time):
        return False
    return not is_forced(setup, settings, time + again, time + 1, start)


def first_due(settings, start, before):
    """Return when the first page about an alert is due, if the last one before was at a time, or None was."""
    _, wait, interval, _, _, _ = settings
    return start + wait if before is None else before + interval


def least_first(settings, start, before):
    """Return the least time that the waits leave for the first page about an alert."""
    _, wait, interval, _, _, _ = settings
    return max(start, wait if before is None else before + interval)


def can_begin(setup, settings, start, before, time):
    """Tell whether the first page about an alert that begins at `start` can be at a time."""
    if time < least_first(settings, start, before) or is_muted(setup, settings[4], time):
        return False
    return not is_forced(setup, settings, first_due(settings, start, before), start, time)


def can_follow(setup, settings, time, later):
    """Tell whether the next page after one at a time can be at a later one."""
    _, _, interval, again, mutes, _ = settings
    if later < time + interval or is_muted(setup, mutes, later):
        return False
    return not is_forced(setup, settings, time + again, time + 1, later)
