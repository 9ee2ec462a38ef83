"""A pager that keeps all that ever happened, and reckons by points 66 to 75 from the beginning each time."""

from watchfloor.matching import matches_all
from watchfloor.routes import group_of, holds_back


class PlainPager:
    """The history of a pager: which alerts fired at each tick, all pages and all rings."""

    def __init__(self, setup):
        self.setup = setup
        self.standins = {name: list(standins) for name, _, standins in setup.schedules}
        self.silences = []
        self.fired = []
        self.pages = []
        self.rings = []
        self.stopped = []
        self.reached = {}

    def run_at(self, labels, time):
        """Return the run that an alert has at a tick."""
        while time > 0 and labels in self.fired[time - 1]:
            time -= 1
        return labels, time

    def runs_at(self, time):
        """Return the runs of a tick, ascending."""
        return [self.run_at(labels, time) for labels in sorted(self.fired[time])]

    def runs_in(self, group, time):
        """Return the runs of a group at a tick."""
        return [(labels, since) for labels, since in self.runs_at(time) if group_of(self.setup.routes, labels) == group]

    def was_reached(self, run, time):
        """Tell whether somebody was reached about a run before a time."""
        return run in self.reached and self.reached[run] < time

    def held_at(self, time, before):
        """Return the labels of a tick that are held back by alerts about which somebody was reached before a time."""
        runs = self.runs_at(time)
        return [labels for labels, _ in runs
                if any(self.was_reached(run, before) and holds_back(self.setup.holdbacks, run[0], labels) for run in runs)]

    def last_page(self, group, time):
        """Return the time and the runs of the last page of a group, if it has had a run at all ticks since, or None."""
        for paged, (route, labels, _, runs) in reversed(self.pages):
            if (route, labels) == group:
                if all(self.runs_in(group, at) for at in range(paged, time + 1)):
                    return paged, runs
                return None
        return None

    def is_muted(self, route, time):
        """Tell whether a route is muted."""
        at = time % self.setup.week
        return any(name in self.setup.routes[route][2][4] and any(first <= at < last for first, last in spans)
                   for name, spans in self.setup.windows)

    def person_on_call(self, schedule, time):
        """Return who is on call."""
        found = None
        layers = [layers for name, layers, _ in self.setup.schedules if name == schedule][0]
        for members, start, shift, spans in layers:
            at = time % self.setup.week
            if time >= start and (not spans or any(first <= at < last for first, last in spans)):
                found = members[(time - start) // shift % len(members)]
        for first, last, person in self.standins[schedule]:
            if first <= time < last:
                found = person
        return found

    def page_for(self, group, time, up):
        """Return the page of a group at a tick, or None."""
        silenced = [labels for labels in self.fired[time]
                    if any(matches_all(matchers, labels) and time in range(first, last) for matchers, first, last in self.silences)]
        held = self.held_at(time, time)
        runs = [run for run in self.runs_in(group, time) if run[0] not in silenced and run[0] not in held]
        if not runs or self.is_muted(group[0], time):
            return None
        _, wait, interval, again, _, _ = self.setup.routes[group[0]][2]
        entry = self.last_page(group, time)
        if entry is None:
            due = min(since for _, since in runs) + wait
        else:
            due = entry[0] + (again if set(runs) <= set(entry[1]) else interval)
        for worker in sorted(up):
            if time >= due + worker * self.setup.pause:
                return group[0], group[1], worker, tuple(runs)
        return None

    def levels(self, plan):
        """Return the levels of a plan."""
        policy = self.setup.routes[self.pages[plan][1][0]][2][5]
        return dict(self.setup.policies)[policy]

    def tick(self, firing, up, down):
        """Return the pages and the rings of a tick."""
        time = len(self.fired)
        self.fired.append(list(firing))
        groups = list(dict.fromkeys(group_of(self.setup.routes, labels) for labels, _ in self.runs_at(time)))
        pages = [page for page in (self.page_for(group, time, up) for group in groups) if page is not None]
        self.pages.extend((time, page) for page in pages)
        rings = []
        for plan, (begun, page) in enumerate(self.pages):
            for schedule, after in self.levels(plan):
                person = self.person_on_call(schedule, time)
                if plan not in self.stopped and begun + after == time and person is not None:
                    reached = dict(down).get(person, 0) < dict(self.setup.people)[person]
                    rings.append((plan, person, reached))
                    if reached:
                        for run in page[3]:
                            self.reached.setdefault(run, time)
        self.rings.extend(rings)
        return pages, rings

    def state(self):
        """Return what a pager tells: time, runs, ledger, plans, reached and held."""
        time = len(self.fired)
        if time == 0:
            return [0, [], [], [], [], []]
        runs = self.runs_at(time - 1)
        groups = sorted({group_of(self.setup.routes, labels) for labels, _ in runs})
        entries = [(group, self.last_page(group, time - 1)) for group in groups]
        plans = [
            (plan, self.setup.routes[page[0]][2][5], begun, page[3], plan in self.stopped)
            for plan, (begun, page) in enumerate(self.pages)
            if any(begun + after > time - 1 for _, after in self.levels(plan))
        ]
        return [
            time, runs, [group + entry for group, entry in entries if entry is not None], plans,
            [run for run in runs if run in self.reached], self.held_at(time - 1, time),
        ]
