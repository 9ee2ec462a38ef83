"""The rehearsal of a script: what a pager is told, tick by tick, so that nobody is reached."""

from watchfloor.checks import RESERVED
from watchfloor.matching import with_label
from watchfloor.routes import settings_of


def rehearsal(setup, labels, limit, script):
    """Return what a pager is told at each tick from 0 to the end of a script with a limit."""
    start, before, pages = script
    wait = settings_of(setup.routes, labels)[1]
    down = [(person, min(channels, setup.down)) for person, channels in setup.people]
    down = [(person, count) for person, count in down if count > 0]
    found = []
    for time in range(start + limit + 1):
        firing = [labels] if time >= start else []
        firing.extend([with_label(labels, RESERVED, value) for value in helpers_at(wait, script, time)])
        worker = 0 if time == before or time in pages else setup.replicas - 1
        found.append((firing, [worker], list(down)))
    return found


def helpers_at(wait, script, time):
    """Return the values of the helpers that fire at a time, in the order in which they stand."""
    start, before, pages = script
    found = [str(place % 2) for place, page in enumerate(pages) if place > 0 and page == time]
    if before is None and pages and pages[0] < start + wait and max(0, pages[0] - wait) <= time <= pages[0]:
        found.append("a")
    if before is not None and max(0, before - wait) <= time < start:
        found.append("b")
    return found
