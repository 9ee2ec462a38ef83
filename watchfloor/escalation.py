"""When routes are muted, and whom policies ring."""

from math import lcm

from watchfloor.alltimes import check_period
from watchfloor.calendars import in_spans, on_call, period, settled, stretches
from watchfloor.setup import channels_of, policy_of, schedule_of, window_of


def spans_of(setup, mutes):
    """Return the list of the spans of windows."""
    return [span for name in mutes for span in window_of(setup, name)[1]]


def is_muted(setup, mutes, time):
    """Tell whether a route with these mutes is muted at a time."""
    return in_spans(setup.week, spans_of(setup, mutes), time)


def unmuted_from(setup, mutes, time):
    """Return the first time, at or after a time, at which a route with these mutes is not muted, or None."""
    spans = spans_of(setup, mutes)
    found = time
    while found < time + setup.week:
        at = found % setup.week
        ends = [last for first, last in spans if first <= at < last]
        if not ends:
            return found
        found += max(ends) - at
    return None


def longest_mute(setup, mutes, time):
    """Return from when on and before when a route with these mutes is muted longest, or None."""
    if unmuted_from(setup, mutes, time) is None:
        return time, None
    spans = spans_of(setup, mutes)
    best = None
    longest = 0
    begun = time
    # A mute that begins within one week ends within the next one.
    for at in range(time, time + 2 * setup.week):
        if in_spans(setup.week, spans, at):
            continue
        if at - begun > longest:
            longest = at - begun
            best = (begun, at)
        begun = at + 1
    return best


def is_sure(setup, person):
    """Tell whether a person is sure to be reached."""
    return channels_of(setup, person) > setup.down


def plan(setup, policy, begun):
    """Return when a policy that begins at a time rings whom, and whether they are sure to be reached."""
    found = []
    for name, after in policy_of(setup, policy)[1]:
        person = on_call(setup.week, schedule_of(setup, name), begun + after)
        if person is not None:
            found.append((begun + after, person, is_sure(setup, person)))
    return found


def delay(setup, policy, begun):
    """Return how long a policy that begins at a time takes to ring somebody who is sure, or None."""
    return min([time - begun for time, _, sure in plan(setup, policy, begun) if sure], default=None)


def delays_between(setup, policy, first, last):
    """Return the list of the delays of a policy for the beginnings from first on and before last."""
    found = [None] * (last - first)
    levels = policy_of(setup, policy)[1]
    # The levels that ring sooner are written over those that ring later.
    for name, after in sorted(levels, key=lambda level: level[1], reverse=True):
        schedule = schedule_of(setup, name)
        for begun, ended, person in stretches(setup.week, schedule, first + after, last + after):
            if person is not None and is_sure(setup, person):
                at = begun - after - first
                found[at:at + ended - begun] = [after] * (ended - begun)
    return found


def schedules_of(setup, policy):
    """Return the list of the schedules of the levels of a policy."""
    return [schedule_of(setup, name) for name, _ in policy_of(setup, policy)[1]]


def period_of(setup, policy):
    """Return the least common multiple of the periods of the schedules of a policy."""
    found = 1
    for schedule in schedules_of(setup, policy):
        found = lcm(found, period(setup.week, schedule))
    return found


def settled_of(setup, policy):
    """Return the time from which on all schedules of a policy repeat."""
    return max([settled(schedule) for schedule in schedules_of(setup, policy)], default=0)


def all_delays(setup, policy, time):
    """Return the list of the delays for beginnings from a time on, as many as it takes to have them all."""
    length = period_of(setup, policy)
    check_period(length)
    return delays_between(setup, policy, time, max(time, settled_of(setup, policy)) + length)


def policy_gap(setup, policy, time):
    """Return the first beginning, at or after a time, with which a policy has no delay, or None."""
    delays = all_delays(setup, policy, time)
    if None in delays:
        return time + delays.index(None)
    return None


def worst_delay(setup, policy, time):
    """Return the greatest delay of a policy from a time on and the first beginning with it, or None."""
    delays = all_delays(setup, policy, time)
    if None in delays:
        return None
    return max(delays), time + delays.index(max(delays))
