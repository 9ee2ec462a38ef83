"""The pager: told tick by tick which alerts fire, it pages, and rings the persons on call."""

from watchfloor.calendars import on_call
from watchfloor.errors import InvalidArgument, NotReached, TooFewChannels, TooLate
from watchfloor.escalation import is_muted, is_sure
from watchfloor.paging import due, is_held, is_silenced, runs_of, worker_for
from watchfloor.routes import group_of
from watchfloor.samples import LAST_TIME
from watchfloor.setup import channels_of, copied, policy_of, schedule_of


class Pager:
    """The runs of alerts, the ledger of the groups that were paged, and the plans.

    The setup is a copy of its own, because stand-ins are added to its schedules. The ledger is a
    dict of pairs of a time and runs by groups. Plans are a dict of tuples `(number, policy, begun,
    runs, stopped)` by their numbers. Who was reached by which plan is kept apart from the plans,
    because it outlives them.
    """

    def __init__(self, setup):
        self._setup = copied(setup)
        self._time = 0
        self._runs = []
        self._reached = []
        self._silences = []
        self._ledger = {}
        self._plans = {}
        self._begun = 0
        self._answers = {}

    def tick(self, firing, up, down):
        """Take in which alerts fire, which workers are up and which channels down; return pages and rings."""
        if len(set(firing)) < len(firing):
            raise InvalidArgument("firing")
        self.check_turn(up, down)
        self._runs = runs_of(self._runs, self._time, firing)
        groups = self.grouped()
        self._ledger = {group: self._ledger[group] for group in self._ledger if group in groups}
        pages = self.page(groups, up)
        rings = self.ring({person: count for person, count in down})
        self._time += 1
        self.forget()
        return pages, rings

    def check_turn(self, up, down):
        """Raise the error that is due for the workers that are up, the channels that are down, or the time."""
        if not up or list(up) != sorted(set(up)) or not 0 <= up[0] <= up[-1] < self._setup.replicas:
            raise InvalidArgument("up")
        persons = [person for person, _ in down]
        known = {person: True for person, _ in self._setup.people}
        if len(set(persons)) < len(persons) or not all(person in known for person in persons):
            raise InvalidArgument("down")
        if not all(0 <= count <= self._setup.down for _, count in down):
            raise InvalidArgument("down")
        if self._time == LAST_TIME:
            raise TooLate("a tick after the last time")

    def grouped(self):
        """Return a dict of the runs by their groups, in the order of the first run of each."""
        found = {}
        for run in self._runs:
            found.setdefault(group_of(self._setup.routes, run[0]), []).append(run)
        return found

    def page(self, groups, up):
        """Page the groups that can be paged, and return the list of the pages."""
        pages = []
        # Nobody is reached before all pages are made, so that no page changes what holds back another.
        for group in groups:
            runs = [run for run in groups[group] if self.is_pageable(run)]
            worker = self.worker(group, runs, up) if runs else None
            if worker is not None:
                pages.append((group[0], group[1], worker, tuple(runs)))
                self._ledger[group] = (self._time, tuple(runs))
                self.begin(self._setup.routes[group[0]][2][5], tuple(runs))
        return pages

    def is_pageable(self, run):
        """Tell whether a run of this tick is neither silenced nor held back."""
        if is_silenced(self._silences, run[0], self._time):
            return False
        return not is_held(self._setup.holdbacks, self._runs, self._reached, run[0])

    def worker(self, group, runs, up):
        """Return the number of the worker who pages a group with these pageable runs, or None."""
        settings = self._setup.routes[group[0]][2]
        if is_muted(self._setup, settings[4], self._time):
            return None
        due_time = due(settings, self._ledger.get(group), runs)
        return worker_for(self._setup.pause, up, due_time, self._time)

    def begin(self, policy, runs):
        """Begin a plan about runs."""
        self._plans[self._begun] = (self._begun, policy, self._time, runs, False)
        self._begun += 1

    def ring(self, counts):
        """Ring for all plans, with so many channels of persons down, and return the list of the rings."""
        rings = []
        for number, policy, begun, runs, stopped in self._plans.values():
            levels = () if stopped else policy_of(self._setup, policy)[1]
            for schedule, after in levels:
                person = self.on_call(schedule) if begun + after == self._time else None
                if person is not None:
                    reached = counts.get(person, 0) < channels_of(self._setup, person)
                    rings.append((number, person, reached))
                    if reached:
                        self._answers[number, person] = True
                        self._reached.extend(runs)
        return rings

    def forget(self):
        """Forget the plans that have no further level, and what was reached about runs that have ended."""
        for number, policy, begun, _, _ in list(self._plans.values()):
            if all(begun + after < self._time for _, after in policy_of(self._setup, policy)[1]):
                del self._plans[number]
        known = {run: True for run in self._reached}
        self._reached = [run for run in self._runs if run in known]

    def silence(self, matchers, first, last):
        """Silence the alerts that match, from a first time on and before a last one."""
        if last <= first:
            raise InvalidArgument("last")
        self._silences.append((tuple(matchers), first, last))

    def stand_in(self, schedule, first, last, person):
        """Let a person who is sure to be reached stand in by a schedule."""
        own = self._setup
        names = [name for name, _, _ in own.schedules]
        if schedule not in names:
            raise InvalidArgument("schedule")
        if last <= first:
            raise InvalidArgument("last")
        if not is_sure(own, person):
            raise TooFewChannels("somebody stands in who is not sure to be reached")
        at = names.index(schedule)
        _, layers, standins = own.schedules[at]
        own.schedules[at] = (schedule, layers, standins + ((first, last, person),))

    def acknowledge(self, plan, person):
        """Stop a plan that reached a person."""
        if (plan, person) not in self._answers:
            raise NotReached("an acknowledgement by somebody who was not reached")
        if plan in self._plans:
            self._plans[plan] = self._plans[plan][:4] + (True,)

    def time(self):
        """Return the time of the next tick."""
        return self._time

    def runs(self):
        """Return the runs of the last tick, ascending."""
        return list(self._runs)

    def reached(self):
        """Return the runs of the last tick about which somebody was reached, ascending."""
        return list(self._reached)

    def held(self):
        """Return the labels of the runs of the last tick, ascending, that are held back by now."""
        labels = [run[0] for run in self._runs]
        return [one for one in labels if is_held(self._setup.holdbacks, self._runs, self._reached, one)]

    def ledger(self):
        """Return the entries of the ledger, ascending by their groups."""
        return [group + self._ledger[group] for group in sorted(self._ledger)]

    def plans(self):
        """Return the plans that are not forgotten, ascending by their numbers."""
        return list(self._plans.values())

    def on_call(self, schedule):
        """Return who is on call now by a schedule, stand-ins included, or None."""
        return on_call(self._setup.week, schedule_of(self._setup, schedule), self._time)
