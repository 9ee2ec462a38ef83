"""A limit within which somebody is surely reached, for all starts."""

from math import lcm

from watchfloor.alltimes import check_period
from watchfloor.escalation import delays_between, period_of, settled_of, unmuted_from
from watchfloor.forcing import Forcing, slack
from watchfloor.routes import settings_of


def sure_limit(setup, labels, time):
    """Return a limit with which no start at or after a time has a gap, or None if there is no such limit."""
    settings = settings_of(setup.routes, labels)
    _, wait, interval, _, mutes, policy = settings
    week = setup.week if mutes else 1
    length = lcm(period_of(setup, policy), week)
    check_period(length)
    if unmuted_from(setup, mutes, time) is None:
        return None
    # The mute that is under way at the time is shorter than its like in later weeks.
    horizon = max(time + week, settled_of(setup, policy)) + length
    most = greatest_sum(Forcing(setup, settings), time, delays_between(setup, policy, time, horizon))
    if most is None:
        return None
    return max(wait, interval - 1) + slack(setup) + most


def greatest_sum(forcing, time, delays):
    """Return the greatest delay together with the mute just before, or None if a time has no delay.

    The delays are those at a time and the times after it.
    """
    most = 0
    muted = 0
    for at, least in enumerate(delays):
        if forcing.free_from(time + at) != time + at:
            muted += 1
            continue
        if least is None:
            return None
        most = max(most, muted + least)
        muted = 0
    return most
