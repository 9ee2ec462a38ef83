"""The store: samples in a log and in blocks."""

from watchfloor.blocks import block_of, copy_of, put_block, samples_of
from watchfloor.logs import put_log
from watchfloor.samples import newest, view_of


class Store:
    """Samples in a log and in blocks, and a floor below which all are dropped.

    The newest time of the view is kept beside them, so that the closed time is told without
    going through the view.
    """

    def __init__(self, lateness, span, factor, levels):
        self._lateness = lateness
        self._span = span
        self._factor = factor
        self._levels = levels
        self._floor = 0
        self._blocks = []
        self._batches = []
        self._synced = 0
        self._newest = 0

    @property
    def floor(self):
        """The time below which all samples were dropped."""
        return self._floor

    @property
    def closed(self):
        """The closed time."""
        ends = [start + width for start, width, _ in self._blocks]
        return max([0, self._newest - self._lateness] + ends)

    @property
    def synced(self):
        """The number of batches that are synced."""
        return self._synced

    def settings(self):
        """Return the four settings: lateness, span, factor and levels."""
        return self._lateness, self._span, self._factor, self._levels

    def restore(self, floor, blocks, batches, synced):
        """Take up a floor, blocks, which ascend, and batches, of which the first ones are synced."""
        self._floor = floor
        self._blocks = [copy_of(block) for block in blocks]
        self._batches = [list(batch) for batch in batches]
        self._synced = synced
        self._newest = newest(self.view())

    def append(self, samples):
        """Judge samples one after the other, and keep those that can be kept as a batch."""
        known = {(labels, time): value for labels, time, value in self.blocked() + self.logged()}
        answers = []
        kept = []
        for sample in samples:
            answer = self.judge(known, sample)
            answers.append(answer)
            if answer == "kept":
                labels, time, value = sample
                known[labels, time] = value
                self._newest = max(self._newest, time)
                kept.append(sample)
        if kept:
            self._batches.append(kept)
        return answers

    def judge(self, known, sample):
        """Return what becomes of a sample, if these values are known by their labels and times."""
        labels, time, value = sample
        if time < self._floor:
            return "old"
        if (labels, time) in known:
            return "there" if known[labels, time] == value else "conflict"
        return "late" if time < self.closed else "kept"

    def sync(self):
        """Sync the log, and return the number of its batches."""
        self._synced = len(self._batches)
        return self._synced

    def seal(self):
        """Move the samples of closed spans from the log into blocks, and return the starts of the spans."""
        self.sync()
        parts = in_closed_spans(self.logged(), [self._span], self.closed)
        rest = parts.pop(None, [])
        if parts:
            self._blocks = sorted(self._blocks + blocks_of(parts))
            self._batches = [view_of(rest)] if rest else []
            self.sync()
        return [start for start, _ in sorted(parts)]

    def compact(self):
        """Seal, make the blocks anew as wide as they can be, and return their number."""
        self.seal()
        widths = widths_of(self._span, self._factor, self._levels)
        self._blocks = blocks_of(in_closed_spans(self.blocked(), widths, self.closed))
        return len(self._blocks)

    def retain(self, time):
        """Drop the samples below a time, and return the number of blocks that were deleted."""
        self.sync()
        many = len(self._blocks)
        if time > self._floor:
            self._floor = time
            self._blocks = [block for block in self._blocks if block[0] + block[1] > time]
            self._newest = newest(self.view())
        return many - len(self._blocks)

    def logged(self):
        """Return the samples of the log that were not dropped."""
        return [sample for batch in self._batches for sample in batch if sample[1] >= self._floor]

    def blocked(self):
        """Return the samples of the blocks that were not dropped."""
        return [sample for block in self._blocks for sample in samples_of(block) if sample[1] >= self._floor]

    def view(self):
        """Return the view: all samples that were not dropped."""
        return view_of(self.blocked() + self.logged())

    def blocks(self):
        """Return the list of the blocks, ascending."""
        return [copy_of(block) for block in self._blocks]

    def batches(self):
        """Return the list of the batches of the log."""
        return [list(batch) for batch in self._batches]

    def disk(self):
        """Return what lies on the disk: the floor, the bytes of the blocks and of the log, how many are synced."""
        blocks = [put_block(block) for block in self._blocks]
        return self._floor, blocks, put_log(self._batches), len(put_log(self._batches[:self._synced]))

    def twin(self):
        """Return a store that is the same and changes apart from this one."""
        other = Store(self._lateness, self._span, self._factor, self._levels)
        other.restore(self._floor, self._blocks, self._batches, self._synced)
        return other


def widths_of(span, factor, levels):
    """Return the widths of the levels of a store, ascending."""
    widths = []
    width = span
    for _ in range(levels + 1):
        widths.append(width)
        width = width * factor
    return widths


def in_closed_spans(samples, widths, closed):
    """Return a dict of samples by the start and the width of the widest closed span in which they lie.

    Those that lie in no closed span of these widths are found under None.
    """
    parts = {}
    for sample in samples:
        parts.setdefault(widest_span(widths, closed, sample[1]), []).append(sample)
    return parts


def widest_span(widths, closed, time):
    """Return the start and the width of the widest closed span in which a time lies, or None."""
    found = None
    for width in widths:
        start = time - time % width
        if start + width <= closed:
            found = (start, width)
    return found


def blocks_of(parts):
    """Return the blocks, ascending, with the samples that stand in a dict under their spans."""
    return [block_of(start, width, view_of(parts[start, width])) for start, width in sorted(parts)]
