"""The floor: a store, the rules that are evaluated over it, and a pager, run together."""

from watchfloor.errors import InvalidArgument
from watchfloor.evaluating import Evaluator
from watchfloor.opening import crashed
from watchfloor.pager import Pager
from watchfloor.samples import is_plain
from watchfloor.setup import copied
from watchfloor.stores import Store


class Floor:
    """A store, an evaluator and a pager of one setup, and the list of what was done to them.

    A deed is noted only when it is done, so that a call that raises an error is none.
    """

    def __init__(self, setup):
        lateness, span, factor, levels = setup.store
        self._setup = copied(setup)
        self._store = Store(lateness, span, factor, levels)
        self._evaluator = Evaluator(setup)
        self._pager = Pager(setup)
        self._deeds = []

    def take(self, samples):
        """Append plain samples to the store, and return what became of each."""
        if not all(is_plain(sample) for sample in samples):
            raise InvalidArgument("samples")
        answers = self._store.append(samples)
        self._deeds.append(("take", tuple(samples)))
        return answers

    def tick(self, missed, up, down):
        """Evaluate the groups that are due, store what they record, and tell the pager what fires."""
        names = [group[0] for group in self._setup.groups]
        if not all(name in names for name in missed):
            raise InvalidArgument("missed")
        self._pager.check_turn(up, down)
        _, recorded = self._evaluator.evaluate(self.time(), self._store.view(), missed)
        given = [sample for sample in recorded if is_plain(sample)]
        answers = self._store.append(given)
        firing = self._evaluator.firing()
        pages, rings = self._pager.tick([labels for labels, _ in firing], up, down)
        self._deeds.append(("tick", tuple(missed), tuple(up), self.counted(down)))
        return given, answers, firing, pages, rings

    def counted(self, down):
        """Return the persons of whom channels are down, with their counts, in the order of the setup."""
        counts = {person: count for person, count in down}
        rows = [(person, counts.get(person, 0)) for person, _ in self._setup.people]
        return tuple([row for row in rows if row[1] > 0])

    def sync(self):
        """Sync the log of the store, and return the number of its batches."""
        many = self._store.sync()
        self._deeds.append(("sync",))
        return many

    def seal(self):
        """Seal the store, and return the starts of the spans that were sealed."""
        starts = self._store.seal()
        self._deeds.append(("seal",))
        return starts

    def compact(self):
        """Compact the store, and return the number of its blocks."""
        many = self._store.compact()
        self._deeds.append(("compact",))
        return many

    def retain(self, time):
        """Drop the samples below a time, and return the number of blocks that were deleted."""
        many = self._store.retain(time)
        self._deeds.append(("retain", time))
        return many

    def crash(self):
        """Lose what is not synced, and return how many samples the view has lost."""
        before = len(self._store.view())
        self._store = crashed(self._store)
        self._deeds.append(("crash",))
        return before - len(self._store.view())

    def silence(self, matchers, first, last):
        """Silence the alerts that match, from a first time on and before a last one."""
        self._pager.silence(matchers, first, last)
        self._deeds.append(("silence", tuple(matchers), first, last))

    def stand_in(self, schedule, first, last, person):
        """Let a person who is sure to be reached stand in by a schedule."""
        self._pager.stand_in(schedule, first, last, person)
        self._deeds.append(("stand_in", schedule, first, last, person))

    def acknowledge(self, plan, person):
        """Stop a plan that reached a person."""
        self._pager.acknowledge(plan, person)
        self._deeds.append(("acknowledge", plan, person))

    def time(self):
        """Return the time of the next tick."""
        return self._pager.time()

    def view(self):
        """Return the view of the store."""
        return self._store.view()

    def firing(self):
        """Return the alerts that fire by the rules since the last tick, each with the time since when."""
        return self._evaluator.firing()

    def pager(self):
        """Return a list of the time, runs, ledger, plans, reached runs and held alerts of the pager."""
        own = self._pager
        return [own.time(), own.runs(), own.ledger(), own.plans(), own.reached(), own.held()]

    def deeds(self):
        """Return the list of what was done."""
        return list(self._deeds)
