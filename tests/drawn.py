"""Setups, alerts and ticks that are drawn by chance, small enough that much happens in them."""

from watchfloor.parsing import parse
from watchfloor.setup import setup

PERSONS = ("ann", "bob", "cy")


def drawn_spans(chance, week, many):
    """Return so many spans of a week."""
    firsts = [chance.randrange(week) for _ in range(many)]
    return tuple((first, chance.randint(first + 1, week)) for first in firsts)


def drawn_layer(chance, week):
    """Return a layer."""
    members = tuple(chance.choice(PERSONS) for _ in range(chance.choice((1, 1, 2, 3))))
    return members, chance.choice((0, 0, 3, 9)), chance.randint(1, 4), drawn_spans(chance, week, chance.choice((0, 0, 1, 2)))


def drawn_standin(chance):
    """Return a stand-in."""
    first = chance.randint(0, 20)
    return first, first + chance.randint(1, 6), chance.choice(PERSONS)


def drawn_schedule(chance, name, week):
    """Return a schedule with a name."""
    layers = tuple(drawn_layer(chance, week) for _ in range(chance.choice((0, 1, 1, 2, 3))))
    return name, layers, tuple(drawn_standin(chance) for _ in range(chance.choice((0, 0, 1, 2))))


def drawn_settings(chance):
    """Return the settings of a route."""
    interval = chance.choice((1, 2, 3, 5))
    return (
        chance.choice(((), ("job",), ("zone",), ("job", "zone"))), chance.choice((0, 0, 1, 2, 4)), interval,
        interval + chance.choice((0, 1, 3, 6)), chance.choice(((), (), (), ("noon",), ("night",), ("noon", "night"))),
        chance.choice(("page", "call")),
    )


def drawn_matchers(chance, many):
    """Return so many matchers."""
    return tuple((chance.choice(("job", "zone")), (chance.choice(("a", "b", "")),), chance.random() < 0.6) for _ in range(many))


def drawn_setup(chance, **others):
    """Return a setup without rules, but for other parts that are given."""
    week = chance.choice((3, 5, 8, 12))
    routes = [(None, (), drawn_settings(chance))]
    for _ in range(chance.randint(0, 3)):
        parent = chance.randrange(len(routes))
        routes.append((parent, drawn_matchers(chance, chance.randint(0, 1)), drawn_settings(chance)))
    parts = {
        "week": week,
        "people": [(name, chance.randint(0, 3)) for name in PERSONS],
        "schedules": [drawn_schedule(chance, name, week) for name in ("first", "second")],
        "policies": [(name, tuple((chance.choice(("first", "second")), chance.choice((0, 0, 1, 2, 4, 7)))
                                  for _ in range(chance.randint(1, 3)))) for name in ("page", "call")],
        "windows": [("noon", drawn_spans(chance, week, 1)), ("night", drawn_spans(chance, week, chance.randint(1, 2)))],
        "routes": routes,
        "holdbacks": [(drawn_matchers(chance, 1), drawn_matchers(chance, 1), chance.choice(((), ("zone",))))
                      for _ in range(chance.choice((0, 0, 1)))],
        "replicas": chance.choice((1, 2, 3)),
        "pause": chance.choice((0, 1, 2)),
        "down": chance.choice((0, 1, 1, 2)),
    }
    parts.update(others)
    return setup(**parts)


ALERTS = [
    tuple((name, value) for name, value in (("job", job), ("zone", zone)) if value != "")
    for job in ("", "a", "b") for zone in ("", "a", "b")
]


def drawn_up(chance, setup):
    """Return the workers that are up: some, or the last one alone."""
    if chance.random() < 0.5:
        return [setup.replicas - 1]
    return [number for number in range(setup.replicas) if chance.random() < 0.4] or [chance.randrange(setup.replicas)]


def drawn_down(chance, setup):
    """Return how many channels of persons are down, mostly as many as there can be."""
    rows = [(name, chance.choice((setup.down, setup.down, chance.randint(0, setup.down)))) for name, _ in setup.people]
    chance.shuffle(rows)
    return [row for row in rows if row[1] > 0 or chance.random() < 0.3]


def one_person(week=10, **others):
    """Return a setup in which one person with two channels is always on call, but for parts that are given."""
    parts = {
        "week": week,
        "people": [("ann", 2)],
        "schedules": [("all", ((("ann",), 0, 1, ()),), ())],
        "policies": [("page", (("all", 0),))],
        "routes": [(None, (), ((), 0, 5, 20, (), "page"))],
    }
    parts.update(others)
    return setup(**parts)


def rule(name, text, hold, keep):
    """Return an alert rule without labels of its own."""
    return "alert", name, parse(text), (), hold, keep
