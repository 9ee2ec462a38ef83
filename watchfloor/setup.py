"""Setups: everything that a floor is run with."""

from watchfloor.checks import (
    is_duration,
    is_group,
    is_holdback,
    is_person,
    is_policy,
    is_route,
    is_schedule,
    is_store,
    is_window,
)
from watchfloor.errors import BadSetup, InvalidArgument
from watchfloor.matching import is_name

MOST_ROUTES = 30
MOST_HOLDBACKS = 10


class Setup:
    """The parts of a setup; `setup` makes one of parts that are checked."""

    def __init__(self, *, week, people, schedules, policies, windows, routes, holdbacks, groups,
                 replicas, pause, down, store, lookback):
        self.week = week
        self.people = list(people)
        self.schedules = list(schedules)
        self.policies = list(policies)
        self.windows = list(windows)
        self.routes = list(routes)
        self.holdbacks = list(holdbacks)
        self.groups = list(groups)
        self.replicas = replicas
        self.pause = pause
        self.down = down
        self.store = store
        self.lookback = lookback


def setup(*, week, people, schedules, policies, windows=(), routes, holdbacks=(), groups=(),
          replicas=1, pause=0, down=0, store=(0, 10, 2, 0), lookback=5):
    """Return the Setup with these parts; raise BadSetup for the first entry that is wrong."""
    made = Setup(week=week, people=people, schedules=schedules, policies=policies, windows=windows,
                 routes=routes, holdbacks=holdbacks, groups=groups, replicas=replicas, pause=pause,
                 down=down, store=store, lookback=lookback)
    check_alone("week", 1 <= made.week <= 2000)
    check_people(made)
    check_alerts(made)
    check_named("groups", made.groups, is_group)
    check_alone("replicas", 1 <= made.replicas <= 5)
    check_alone("pause", is_duration(made.pause))
    check_alone("down", 0 <= made.down <= 20)
    check_alone("store", is_store(made.store))
    check_alone("lookback", 1 <= made.lookback <= 1000)
    return made


def copied(made):
    """Return a Setup with the same parts, whose lists are its own."""
    return Setup(week=made.week, people=made.people, schedules=made.schedules, policies=made.policies,
                 windows=made.windows, routes=made.routes, holdbacks=made.holdbacks, groups=made.groups,
                 replicas=made.replicas, pause=made.pause, down=made.down, store=made.store,
                 lookback=made.lookback)


def check_people(made):
    """Check the people of a setup and who of them is on call when."""
    check_named("people", made.people, is_person)
    persons = names_of(made.people)
    check_named("schedules", made.schedules, lambda schedule: is_schedule(made.week, persons, schedule))
    schedules = names_of(made.schedules)
    check_named("policies", made.policies, lambda policy: is_policy(schedules, policy))
    check_named("windows", made.windows, lambda window: is_window(made.week, window))


def check_alerts(made):
    """Check where the alerts of a setup go, and what holds them back."""
    windows = names_of(made.windows)
    policies = names_of(made.policies)
    if not made.routes:
        raise BadSetup("routes", 0)
    for place, route in enumerate(made.routes):
        if place >= MOST_ROUTES or not is_route(place, windows, policies, route):
            raise BadSetup("routes", place)
    for place, holdback in enumerate(made.holdbacks):
        if place >= MOST_HOLDBACKS or not is_holdback(holdback):
            raise BadSetup("holdbacks", place)


def check_alone(part, right):
    """Raise BadSetup for a part that is no list, unless it is right."""
    if not right:
        raise BadSetup(part, 0)


def check_named(part, entries, is_right):
    """Raise BadSetup for the first entry that is not right, or whose name is none or an earlier one's."""
    earlier = {}
    for place, entry in enumerate(entries):
        name = entry[0]
        if not is_name(name) or name in earlier or not is_right(entry):
            raise BadSetup(part, place)
        earlier[name] = True


def names_of(entries):
    """Return the list of the names of entries."""
    return [entry[0] for entry in entries]


def entry_of(entries, name, word):
    """Return the entry with a name; raise InvalidArgument with this word if there is none."""
    for entry in entries:
        if entry[0] == name:
            return entry
    raise InvalidArgument(word)


def channels_of(made, person):
    """Return how many channels a person has."""
    return entry_of(made.people, person, "person")[1]


def schedule_of(made, name):
    """Return the schedule with a name."""
    return entry_of(made.schedules, name, "schedule")


def policy_of(made, name):
    """Return the policy with a name."""
    return entry_of(made.policies, name, "policy")


def window_of(made, name):
    """Return the window with a name."""
    return entry_of(made.windows, name, "window")


def group_of_rules(made, name):
    """Return the group of rules with a name."""
    return entry_of(made.groups, name, "group")
