"""Histories in which nobody is reached about an alert within a limit, or that there are none."""

from watchfloor.escalation import delays_between
from watchfloor.forcing import Forcing, first_due, least_first
from watchfloor.routes import settings_of


class Search:
    """The search for scripts at one route, between a first time and a last end.

    The delays of the policy are found once for all starts and limits between these times.
    """

    def __init__(self, setup, settings, first, last):
        self._settings = settings
        self._forcing = Forcing(setup, settings)
        self._first = first
        self._delays = delays_between(setup, settings[5], first, last + 1)

    def is_free(self, time):
        """Tell whether a time is not muted."""
        return self._forcing.free_from(time) == time

    def can_fail(self, time, end):
        """Tell whether a page at a time need not reach anybody up to an end."""
        least = self._delays[time - self._first]
        return least is None or time + least > end

    def failing(self, first, end):
        """Return for each time from first to end whether all can fail from then on, and the next page.

        Beside it, return for each of these times, and one more, the least time at or after it at
        which a page can be from which on all can fail.
        """
        rows = []
        chosen = [None]
        for time in range(end, first - 1, -1):
            # What is found so far, from the last time on, ends with the time after this one.
            row = self.row(time, end, chosen)
            rows.append(row)
            chosen.append(time if row[0] and self.is_free(time) else chosen[-1])
        rows.reverse()
        chosen.reverse()
        return rows, chosen

    def row(self, time, end, chosen):
        """Return the row of a time, if `chosen` tells the pages that can be chosen later, the last time first."""
        _, _, interval, again, _, _ = self._settings
        if not self.can_fail(time, end):
            return False, None
        forced = self._forcing.forced_from(time + again, time + 1)
        if forced is None or forced > end:
            return True, None
        later = chosen[max(0, end + 1 - time - interval)]
        if later is None or later > forced:
            return False, None
        return True, later

    def script(self, start, end):
        """Return the first script for a start and an end, or None."""
        found = self.failing(start, end)
        for before in [None] + self.preceding(start):
            pages = self.pages(start, before, end, found)
            if pages is not None:
                return start, before, tuple(pages)
        return None

    def preceding(self, start):
        """Return the list of the times that can precede a start, ascending."""
        _, wait, _, again, _, _ = self._settings
        found = []
        time = start - 1
        # If a page is forced between a time and the start, one is forced for all earlier times.
        while time >= wait and not self._forcing.is_forced(time + again, time + 1, start):
            if self.is_free(time):
                found.append(time)
            time -= 1
        found.reverse()
        return found

    def pages(self, start, before, end, found):
        """Return the times of the pages of the script with this last page before, or None if there is none."""
        rows, chosen = found
        forced = self._forcing.forced_from(first_due(self._settings, start, before), start)
        if forced is None or forced > end:
            return []
        least = least_first(self._settings, start, before)
        page = chosen[min(least, end + 1) - start]
        if page is None or page > forced:
            return None
        pages = []
        while page is not None:
            pages.append(page)
            page = rows[page - start][1]
        return pages


def failing(setup, settings, first, end):
    """Return for each time from first to end whether all can fail from then on, and the next page then."""
    return Search(setup, settings, first, end).failing(first, end)[0]


def gap(setup, labels, start, limit):
    """Return a script in which nobody is reached within a limit, or None if there is none."""
    end = start + limit
    return Search(setup, settings_of(setup.routes, labels), start, end).script(start, end)


def gap_between(setup, labels, first, last, limit):
    """Return the gap for the first time from first on and before last that has one, or None."""
    search = Search(setup, settings_of(setup.routes, labels), first, last + limit)
    for start in range(first, last):
        script = search.script(start, start + limit)
        if script is not None:
            return script
    return None


def least_limit(setup, labels, first, last, most):
    """Return the least limit with which no time from first on and before last has a gap, or None."""
    search = Search(setup, settings_of(setup.routes, labels), first, last + most)
    limit = 0
    for start in range(first, last):
        # A time without a gap has none with greater limits either.
        while limit <= most and search.script(start, start + limit) is not None:
            limit += 1
    return limit if limit <= most else None
