"""The evaluation of groups of rules."""

from watchfloor.alerting import alert_labels, record_labels, step
from watchfloor.errors import InvalidArgument, NotLater, TooManyTimes
from watchfloor.reading import reach
from watchfloor.samples import add_sample, sample_at, select
from watchfloor.timing import is_due
from watchfloor.values import value_at

MOST_LATER = 200


class Evaluator:
    """The groups of rules of a setup, and the times of their alerts.

    The alerts of each rule are a dict of their times by their labels; it stands under the name
    of the group and the place of the rule.
    """

    def __init__(self, setup):
        self._setup = setup
        self._groups = list(setup.groups)
        self._lookback = setup.lookback
        self._last = None
        self._alerts = {}

    def evaluate(self, time, view, missed):
        """Evaluate the groups that are due and not missed.

        Return the view with what was recorded, and the recorded samples that were not there before.
        """
        names = [group[0] for group in self._groups]
        if not all(name in names for name in missed):
            raise InvalidArgument("missed")
        if self._last is not None and time <= self._last:
            raise NotLater("an evaluation that is not later than the one before")
        self._last = time
        due = [group for group in self._groups if is_due(group[1], group[2], time) and group[0] not in missed]
        recorded = self.run(due, self.recent(due, time, view), time)
        return sorted(view + recorded), sorted(recorded)

    def recent(self, due, time, view):
        """Return the part of a view that the rules of groups can read or record at a time.

        A view can be long, and each rule would go through all of it.
        """
        widths = [reach(rule[2], self._lookback) for group in due for rule in group[3]]
        return select(view, (), time - max(widths, default=1) + 1, time)

    def run(self, due, view, time):
        """Evaluate groups one after the other, and return the list of the samples that were recorded."""
        recorded = []
        for name, _, _, rules in due:
            for place, rule in enumerate(rules):
                vector = value_at(rule[2], self._lookback, view, time)
                if rule[0] == "alert":
                    self.note_alerts((name, place), rule, vector, time)
                    continue
                for sample in samples_by(rule, vector, time):
                    if sample_at(view, sample[0], time) is None:
                        view = add_sample(view, sample)
                        recorded.append(sample)
        return recorded

    def note_alerts(self, place, rule, vector, time):
        """Note what an evaluation makes of the alerts of the rule at a place."""
        _, name, _, labels, hold, keep = rule
        before = self._alerts.get(place, {})
        holding = {alert_labels(name, labels, entry): True for entry, _ in vector}
        after = {}
        for alert in list(before) + list(holding):
            times = step(hold, keep, time, alert in holding, before.get(alert))
            if times is not None:
                after[alert] = times
        self._alerts[place] = after

    def firing(self):
        """Return the labels of the alerts that fire, ascending, each with the time since when."""
        since = {}
        for alerts in self._alerts.values():
            for labels, times in alerts.items():
                if times[1] is not None:
                    since[labels] = min(times[1], since.get(labels, times[1]))
        return sorted(since.items())

    def alerts(self, group, rule):
        """Return the labels of the alerts of a rule that are not over, ascending, each with its times."""
        found = [rules for name, _, _, rules in self._groups if name == group]
        if not found:
            raise InvalidArgument("group")
        if not 0 <= rule < len(found[0]):
            raise InvalidArgument("rule")
        return sorted(self._alerts.get((group, rule), {}).items())

    def twin(self):
        """Return an evaluator that is the same and changes apart from this one."""
        other = Evaluator(self._setup)
        other.restore(self._groups, self._lookback, self._last, self._alerts)
        return other

    def restore(self, groups, lookback, last, alerts):
        """Take up groups, a lookback, the time of the last evaluation, and alerts."""
        self._groups = list(groups)
        self._lookback = lookback
        self._last = last
        self._alerts = {place: {labels: times for labels, times in alerts[place].items()} for place in alerts}


def samples_by(rule, vector, time):
    """Return the list of the samples to which a recording rule makes the entries of a vector."""
    _, name, _, labels = rule
    return [(record_labels(name, labels, entry), time, value) for entry, value in vector]


def test_rules(setup, view, first, last):
    """Return when which alerts begin and end to fire, if the rules of a setup are evaluated over a view."""
    if last - first > MOST_LATER:
        raise TooManyTimes("more times than are tested in one call")
    evaluator = Evaluator(setup)
    changes = []
    before = []
    for time in range(first, last + 1):
        view, _ = evaluator.evaluate(time, view, [])
        after = [labels for labels, _ in evaluator.firing()]
        began = [labels for labels in after if labels not in before]
        ended = [labels for labels in before if labels not in after]
        if began or ended:
            changes.append((time, began, ended))
        before = after
    return changes
