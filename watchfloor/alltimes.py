"""Who is on call at all times from a time on."""

from math import lcm

from watchfloor.calendars import next_break, on_call, period, settled, stretches
from watchfloor.errors import PeriodTooLong

LONGEST_PERIOD = 2000


def check_period(length):
    """Raise PeriodTooLong for a period about which nothing is told."""
    if length > LONGEST_PERIOD:
        raise PeriodTooLong("a period too long for answers about all times")


def first_gap(week, schedule, time):
    """Return from when on and before when nobody is on call for the first time, or None."""
    length = period(week, schedule)
    check_period(length)
    # A gap that begins within one period and goes on for one more never ends.
    horizon = max(time, settled(schedule)) + 2 * length
    for first, last, person in stretches(week, schedule, time, horizon):
        if person is None:
            return first, None if last == horizon else last
    return None


def ever_on_call(week, schedule, time):
    """Return who ever is on call at or after a time, each with the first such time."""
    length = period(week, schedule)
    check_period(length)
    horizon = max(time, settled(schedule)) + length
    found = {}
    for first, _, person in stretches(week, schedule, time, horizon):
        if person is not None:
            found.setdefault(person, first)
    return list(found.items())


def cycle(week, schedule):
    """Return the settled time, and the least number after which the schedule repeats from then on."""
    length = period(week, schedule)
    check_period(length)
    begun = settled(schedule)
    persons = [on_call(week, schedule, time) for time in range(begun, begun + length)]
    many = 1
    while length % many != 0 or persons[many:] + persons[:many] != persons:
        many += 1
    return begun, many


def first_difference(week, schedule, other, time):
    """Return the first time at which two schedules differ, and whom each has on call then, or None."""
    length = lcm(period(week, schedule), period(week, other))
    check_period(length)
    horizon = max(time, settled(schedule), settled(other)) + length
    at = time
    while at is not None and at < horizon:
        one, two = on_call(week, schedule, at), on_call(week, other, at)
        if one != two:
            return at, one, two
        breaks = [next_break(week, schedule, at), next_break(week, other, at)]
        at = min([place for place in breaks if place is not None], default=None)
    return None
