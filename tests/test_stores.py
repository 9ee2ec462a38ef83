"""Points 25 to 30, 34 and 37: the store."""

import random
import unittest

from tests.support import WatchTest, done, small_deed, small_store
from watchfloor.blocks import put_block
from watchfloor.logs import put_batch, put_log
from watchfloor.samples import series_of
from watchfloor.stores import Store

UP, LOAD = (("metric", "up"),), (("job", "a"), ("metric", "load"))


def up(*times):
    return [(UP, time, 10 * time) for time in times]


def block(start, width, *samples):
    return start, width, series_of(sorted(samples))


def state(store):
    """Return everything that a store tells."""
    return (store.floor, store.closed, store.synced, store.view(), store.blocks(), store.batches(), store.disk())


class StoreTest(WatchTest):

    def store(self, lateness, span, factor, levels, *deeds):
        """Return a store to which deeds were done."""
        made = Store(lateness, span, factor, levels)
        for deed in deeds:
            done(made, deed)
        return made

    def holds(self, store, **told):
        """Check what a store tells; properties and methods by their names."""
        for name, expected in told.items():
            found = getattr(store, name)
            found = found() if callable(found) else found
            self.assertEqual(found, expected, name)
            self.assertEqual(repr(found), repr(expected), name)


class NewTest(StoreTest):

    def test_new_store(self):
        self.holds(Store(3, 10, 2, 1), floor=0, closed=0, synced=0, view=[], blocks=[], batches=[], disk=(0, [], [], 0))

    def test_deeds_with_an_empty_store(self):
        store = Store(3, 10, 2, 1)
        self.gives([], store.append, [])
        self.gives(0, store.sync)
        self.gives([], store.seal)
        self.gives(0, store.compact)
        self.gives(0, store.retain, 0)
        self.holds(store, floor=0, closed=0, synced=0, view=[], blocks=[], batches=[], disk=(0, [], [], 0))
        self.gives(0, store.retain, 7)
        self.holds(store, floor=7, closed=0, synced=0, view=[], disk=(7, [], [], 0))


class AppendTest(StoreTest):

    def test_kept_samples_become_a_batch(self):
        store = self.store(5, 10, 2, 1)
        self.gives(["kept", "kept"], store.append, [(UP, 4, 1), (LOAD, 3, 2)])
        self.holds(store, batches=[[(UP, 4, 1), (LOAD, 3, 2)]], view=[(LOAD, 3, 2), (UP, 4, 1)], synced=0)
        self.gives(["kept"], store.append, [(UP, 1, 1)])
        self.holds(store, batches=[[(UP, 4, 1), (LOAD, 3, 2)], [(UP, 1, 1)]], synced=0,
                   view=[(LOAD, 3, 2), (UP, 1, 1), (UP, 4, 1)])

    def test_no_batch_if_nothing_is_kept(self):
        store = self.store(5, 10, 2, 1, ("append", up(4)))
        self.gives(["there"], store.append, up(4))
        self.gives([], store.append, [])
        self.holds(store, batches=[up(4)])

    def test_there_and_conflict(self):
        store = self.store(5, 10, 2, 1, ("append", [(UP, 4, 1)]))
        self.gives(["there", "conflict", "conflict", "kept", "kept"], store.append,
                   [(UP, 4, 1), (UP, 4, 2), (UP, 4, -1), (LOAD, 4, 1), (UP, 5, 1)])
        self.holds(store, batches=[[(UP, 4, 1)], [(LOAD, 4, 1), (UP, 5, 1)]])

    def test_there_and_conflict_within_one_list(self):
        store = self.store(5, 10, 2, 1)
        self.gives(["kept", "there", "conflict", "there"], store.append, [(UP, 4, 1), (UP, 4, 1), (UP, 4, 2), (UP, 4, 1)])
        self.holds(store, batches=[[(UP, 4, 1)]], view=[(UP, 4, 1)])

    def test_late(self):
        store = self.store(5, 10, 2, 1, ("append", up(20)))
        self.gives(["late", "kept", "kept"], store.append, up(14, 15, 16))
        self.gives(["late"], store.append, up(0))
        self.holds(store, batches=[up(20), up(15, 16)], closed=15)

    def test_late_within_one_list(self):
        """A sample that was kept makes later ones late, but none that was kept before it."""
        store = self.store(5, 10, 2, 1)
        self.gives(["kept", "kept", "late", "kept"], store.append, up(3, 20, 14, 15))
        self.holds(store, batches=[up(3, 20, 15)], view=up(3, 15, 20))

    def test_late_by_the_lateness_of_nought(self):
        store = self.store(0, 10, 2, 1)
        self.gives(["kept", "kept", "late", "there"], store.append, up(3, 4, 2, 3))
        self.gives(["kept"], store.append, [(LOAD, 4, 1)])

    def test_a_sample_that_is_not_kept_makes_nothing_late(self):
        store = self.store(5, 10, 2, 1, ("append", [(UP, 4, 1)]))
        self.gives(["conflict", "kept"], store.append, [(UP, 4, 7), (UP, 0, 1)])

    def test_there_comes_before_late(self):
        store = self.store(0, 10, 2, 1, ("append", up(3, 50)))
        self.gives(["there", "conflict", "late"], store.append, [(UP, 3, 30), (UP, 3, 31), (LOAD, 3, 30)])

    def test_there_and_conflict_with_a_block(self):
        store = self.store(0, 10, 2, 1, ("append", up(3, 50)), ("seal",))
        self.holds(store, batches=[up(50)])
        self.gives(["there", "conflict", "late"], store.append, [(UP, 3, 30), (UP, 3, 31), (LOAD, 3, 30)])

    def test_old_comes_before_there_and_late(self):
        store = self.store(0, 10, 2, 1, ("append", up(3, 50)), ("retain", 4))
        self.gives(["old", "old", "old", "late"], store.append, [(UP, 3, 30), (UP, 3, 31), (LOAD, 3, 30), (UP, 4, 40)])
        self.holds(store, batches=[up(3, 50)])

    def test_old_at_both_sides_of_the_floor(self):
        store = self.store(20, 10, 2, 1, ("retain", 7))
        self.gives(["old", "kept", "kept"], store.append, up(6, 7, 8))

    def test_dropped_samples_make_nothing_late(self):
        store = self.store(2, 10, 2, 1, ("append", up(20)), ("retain", 21))
        self.holds(store, view=[], closed=0, floor=21)
        self.gives(["old", "kept", "kept"], store.append, up(20, 21, 30))

    def test_late_by_the_last_block(self):
        store = self.store(20, 10, 2, 0, ("append", up(3, 30)), ("seal",))
        self.holds(store, closed=10, blocks=[block(0, 10, (UP, 3, 30))])
        self.gives(["late", "kept"], store.append, up(9, 10))

    def test_limits_of_plain_samples(self):
        store = self.store(1000, 1000, 10, 3)
        self.gives(["kept", "kept", "kept"], store.append, [(UP, 9000, 1 - 10 ** 15), (UP, 10000, 10 ** 15 - 1), ((), 9000, 0)])
        self.holds(store, closed=9000)

    def test_what_is_handed_in_stays_apart(self):
        samples = up(1, 2)
        store = self.store(5, 10, 2, 1)
        answers = store.append(samples)
        answers.clear()
        samples.clear()
        self.holds(store, batches=[up(1, 2)])


class ClosedTimeTest(StoreTest):

    def test_by_the_lateness(self):
        for lateness, closed in ((0, 20), (1, 19), (19, 1), (20, 0), (21, 0), (1000, 0)):
            self.holds(self.store(lateness, 10, 2, 0, ("append", up(20))), closed=closed)

    def test_by_the_last_block(self):
        """A store that is opened from blocks alone has no samples behind their end."""
        store = self.store(5, 10, 2, 1)
        store.restore(0, [block(0, 10, (UP, 3, 30)), block(20, 20, (UP, 22, 220))], [], 0)
        self.holds(store, closed=40)
        self.gives(["late", "kept", "there"], store.append, up(39, 40, 22))
        self.holds(store, closed=40)
        self.gives(["kept"], store.append, up(46))
        self.holds(store, closed=41)

    def test_by_newest_of_the_view_alone(self):
        store = self.store(5, 10, 2, 1, ("append", up(20, 30)), ("append", up(26)), ("retain", 27))
        self.holds(store, closed=25)
        done(store, ("retain", 31))
        self.holds(store, closed=0)


class SyncTest(StoreTest):

    def test_sync(self):
        store = self.store(5, 10, 2, 1, ("append", up(1)), ("append", up(2)))
        self.holds(store, synced=0)
        self.gives(2, store.sync)
        self.holds(store, synced=2)
        self.gives(2, store.sync)
        done(store, ("append", up(3)))
        self.holds(store, synced=2)
        self.gives(3, store.sync)

    def test_disk(self):
        store = self.store(0, 10, 2, 0, ("append", up(1, 12)), ("seal",), ("append", up(13, 14)), ("sync",),
                           ("append", up(15)), ("retain", 1), ("append", [(LOAD, 15, 1)]))
        log = put_log([up(12), up(13, 14), up(15), [(LOAD, 15, 1)]])
        synced = put_log([up(12), up(13, 14), up(15)])
        self.holds(store, disk=(1, [put_block(block(0, 10, (UP, 1, 10)))], log, len(synced)), synced=3)
        self.holds(self.store(5, 10, 2, 1, ("append", up(1))), disk=(0, [], put_batch(up(1)), 0))
        self.holds(self.store(5, 10, 2, 1, ("append", up(1)), ("sync",)),
                   disk=(0, [], put_batch(up(1)), len(put_batch(up(1)))))


class SealTest(StoreTest):

    def test_no_closed_span(self):
        store = self.store(5, 10, 2, 1, ("append", up(1, 3)), ("append", up(14)))
        self.gives([], store.seal)
        self.holds(store, batches=[up(1, 3), up(14)], synced=2, blocks=[])

    def test_span_that_is_just_closed(self):
        store = self.store(5, 10, 2, 1, ("append", up(1, 3)), ("append", up(15)))
        self.gives([0], store.seal)
        self.holds(store, batches=[up(15)], synced=1, blocks=[block(0, 10, *up(1, 3))], view=up(1, 3, 15), closed=10)

    def test_several_closed_spans(self):
        store = self.store(0, 10, 2, 2, ("append", up(3, 9, 10, 35)), ("append", [(LOAD, 35, 1), (UP, 39, 2)]),
                           ("append", [(LOAD, 40, 3)]))
        self.gives([0, 10, 30], store.seal)
        self.holds(store, synced=1, batches=[[(LOAD, 40, 3)]], blocks=[
            block(0, 10, *up(3, 9)), block(10, 10, *up(10)), block(30, 10, (LOAD, 35, 1), (UP, 35, 350), (UP, 39, 2))])

    def test_nothing_stays_in_the_log(self):
        store = self.store(0, 10, 2, 0)
        store.restore(0, [block(40, 10, *up(44))], [up(3), up(12)], 0)
        self.gives([0, 10], store.seal)
        self.holds(store, batches=[], synced=0, view=up(3, 12, 44),
                   blocks=[block(0, 10, *up(3)), block(10, 10, *up(12)), block(40, 10, *up(44))])

    def test_what_stays_is_one_ascending_batch(self):
        store = self.store(20, 10, 2, 0, ("append", [(UP, 3, 1), (UP, 30, 2), (UP, 28, 3)]), ("append", [(LOAD, 29, 4)]))
        self.gives([0], store.seal)
        self.holds(store, batches=[[(LOAD, 29, 4), (UP, 28, 3), (UP, 30, 2)]], synced=1)

    def test_dropped_samples_become_no_block(self):
        store = self.store(0, 10, 2, 0, ("append", up(3, 12, 30)), ("retain", 10))
        self.gives([10], store.seal)
        self.holds(store, blocks=[block(10, 10, *up(12))], batches=[up(30)])
        store = self.store(0, 10, 2, 0, ("append", up(3, 8, 30)), ("retain", 4))
        self.gives([0], store.seal)
        self.holds(store, blocks=[block(0, 10, *up(8))], batches=[up(30)])

    def test_log_with_dropped_samples_alone_in_closed_spans_stays(self):
        store = self.store(0, 10, 2, 0, ("append", up(3)), ("append", up(30)), ("retain", 10))
        self.gives([], store.seal)
        self.holds(store, blocks=[], batches=[up(3), up(30)], view=up(30), synced=2)

    def test_dropped_samples_leave_the_log_when_it_is_written_anew(self):
        store = self.store(10, 10, 2, 0, ("append", up(25, 26, 35)), ("append", up(34, 45)), ("retain", 26))
        self.gives([20], store.seal)
        self.holds(store, blocks=[block(20, 10, *up(26))], batches=[up(34, 35, 45)])

    def test_sealing_twice(self):
        store = self.store(0, 10, 2, 0, ("append", up(3, 30)), ("seal",))
        before = state(store)
        self.gives([], store.seal)
        self.assertEqual(state(store), before)

    def test_level_nought_alone(self):
        store = self.store(0, 10, 2, 2, ("append", up(3, 13, 80)))
        self.gives([0, 10], store.seal)
        self.holds(store, blocks=[block(0, 10, *up(3)), block(10, 10, *up(13))])


class CompactTest(StoreTest):

    def test_over_several_levels(self):
        store = self.store(0, 10, 2, 2, ("append", up(3, 13, 39, 41, 55, 61, 70)))
        self.gives(3, store.compact)
        self.holds(store, batches=[up(70)], view=up(3, 13, 39, 41, 55, 61, 70), blocks=[
            block(0, 40, *up(3, 13, 39)), block(40, 20, *up(41, 55)), block(60, 10, *up(61))])
        done(store, ("append", up(80)))
        self.gives(2, store.compact)
        self.holds(store, batches=[up(80)], blocks=[block(0, 40, *up(3, 13, 39)), block(40, 40, *up(41, 55, 61, 70))])

    def test_no_wider_than_the_levels(self):
        for levels, spans in ((0, [(0, 10), (10, 10), (30, 10), (70, 10)]), (1, [(0, 20), (20, 20), (60, 20)]),
                              (2, [(0, 40), (40, 40)]), (3, [(0, 80)])):
            store = self.store(0, 10, 2, levels, ("append", up(3, 13, 31, 71, 80)))
            self.gives(len(spans), store.compact)
            self.assertEqual([found[:2] for found in store.blocks()], spans)

    def test_factor(self):
        store = self.store(0, 10, 3, 2, ("append", up(3, 13, 31, 71, 89, 90)))
        self.gives(1, store.compact)
        self.holds(store, blocks=[block(0, 90, *up(3, 13, 31, 71, 89))])
        store = self.store(0, 10, 10, 1, ("append", up(3, 99, 100, 109, 110)))
        self.gives(2, store.compact)
        self.holds(store, blocks=[block(0, 100, *up(3, 99)), block(100, 10, *up(100, 109))])

    def test_span_that_is_just_closed(self):
        store = self.store(0, 10, 2, 1, ("append", up(3, 19)))
        self.gives(1, store.compact)
        self.holds(store, blocks=[block(0, 10, *up(3))], batches=[up(19)])
        store = self.store(0, 10, 2, 1, ("append", up(3, 20)))
        self.gives(1, store.compact)
        self.holds(store, blocks=[block(0, 20, *up(3))], batches=[up(20)])

    def test_nothing_to_compact(self):
        store = self.store(5, 10, 2, 1, ("append", up(3)))
        self.gives(0, store.compact)
        self.holds(store, blocks=[], batches=[up(3)], synced=1)
        store = self.store(0, 10, 2, 1, ("append", up(3, 20)), ("compact",))
        before = state(store)
        self.gives(1, store.compact)
        self.assertEqual(state(store), before)

    def test_behind_a_retention(self):
        store = self.store(0, 10, 2, 1, ("append", up(3, 8, 13, 20, 33, 50)), ("compact",), ("retain", 8))
        self.holds(store, blocks=[block(0, 20, *up(3, 8, 13)), block(20, 20, *up(20, 33))], view=up(8, 13, 20, 33, 50))
        self.gives(2, store.compact)
        self.holds(store, blocks=[block(0, 20, *up(8, 13)), block(20, 20, *up(20, 33))], view=up(8, 13, 20, 33, 50))

    def test_block_of_dropped_samples_alone_goes(self):
        store = self.store(0, 10, 2, 1, ("append", up(3, 8, 33, 50)), ("compact",), ("retain", 9))
        self.holds(store, blocks=[block(0, 20, *up(3, 8)), block(20, 20, *up(33))], view=up(33, 50))
        self.gives(1, store.compact)
        self.holds(store, blocks=[block(20, 20, *up(33))], view=up(33, 50))

    def test_samples_of_the_log_that_are_not_closed_stay_there(self):
        store = self.store(5, 10, 2, 1, ("append", up(3, 24)))
        self.gives(1, store.compact)
        self.holds(store, blocks=[block(0, 10, *up(3))], batches=[up(24)], closed=19)
        done(store, ("append", up(25, 31)))
        self.gives(1, store.compact)
        self.holds(store, blocks=[block(0, 20, *up(3))], batches=[up(24), up(25, 31)], closed=26)


class RetainTest(StoreTest):

    def full(self):
        return self.store(0, 10, 2, 0, ("append", up(3, 13, 23, 33, 34)), ("seal",), ("append", up(35)))

    def test_below_and_at_the_floor(self):
        store = self.full()
        done(store, ("retain", 20))
        for time in (0, 19, 20):
            done(store, ("append", up(36 + time)))
            before = (store.floor, store.view(), store.blocks(), store.batches())
            many = store.synced
            self.gives(0, store.retain, time)
            self.assertEqual((store.floor, store.view(), store.blocks(), store.batches()), before)
            self.assertEqual(store.synced, many + 1)

    def test_above_the_floor(self):
        for time, deleted in ((1, 0), (9, 0), (10, 1), (11, 1), (19, 1), (20, 2), (30, 3), (31, 3), (36, 3), (10000, 3)):
            store = self.full()
            view = store.view()
            self.gives(deleted, store.retain, time)
            self.holds(store, floor=time, synced=2, batches=[up(33, 34), up(35)],
                       view=[sample for sample in view if sample[1] >= time])
            self.assertEqual([found[0] for found in store.blocks()], [0, 10, 20][deleted:])

    def test_blocks_and_log_with_samples_below_the_floor(self):
        store = self.full()
        self.gives(0, store.retain, 4)
        self.holds(store, blocks=[block(0, 10, *up(3)), block(10, 10, *up(13)), block(20, 10, *up(23))])
        self.gives(3, store.retain, 34)
        self.holds(store, batches=[up(33, 34), up(35)], view=up(34, 35), blocks=[])
        self.gives(["old"], store.append, up(33))

    def test_wide_blocks(self):
        store = self.store(0, 10, 2, 2, ("append", up(3, 13, 39, 41, 55, 61, 70)), ("compact",))
        self.gives(0, store.retain, 39)
        self.gives(1, store.retain, 40)
        self.gives(1, store.retain, 69)
        self.gives(1, store.retain, 70)
        self.holds(store, blocks=[], view=up(70), closed=70)


class ApartTest(StoreTest):

    def full(self):
        return self.store(0, 10, 2, 1, ("append", up(3, 13, 40)), ("compact",), ("append", up(41)), ("sync",),
                          ("append", up(42)), ("retain", 1))

    def test_twin_is_the_same(self):
        store = self.full()
        self.assertEqual(state(store.twin()), state(store))
        self.assertIsNot(store.twin(), store)
        self.assertIs(type(store.twin()), Store)

    def test_twin_goes_on_apart(self):
        for deed in (("append", up(60)), ("sync",), ("seal",), ("compact",), ("retain", 41)):
            store = self.full()
            done(store, ("append", up(55)))
            twin = store.twin()
            before = state(store)
            done(twin, deed)
            self.assertNotEqual(state(twin), before)
            self.assertEqual(state(store), before)
            store, twin = twin.twin(), store
            done(twin, deed)
            self.assertEqual(state(twin), state(store))

    def test_twin_has_the_settings(self):
        chance = random.Random(1)
        for _ in range(50):
            store = Store(*small_store(chance))
            twin = store.twin()
            for time in range(0, 60, 5):
                deed = small_deed(chance, time)
                self.assertEqual(done(store, deed), done(twin, deed))
            self.assertEqual(state(store), state(twin))

    def test_what_is_returned_is_the_callers(self):
        store = self.full()
        before = state(store)
        store.view().clear()
        for found in store.blocks():
            found[2][0][1].clear()
            found[2].clear()
        store.blocks().clear()
        for batch in store.batches():
            batch.clear()
        store.batches().clear()
        disk = store.disk()
        disk[1][0].clear()
        disk[1].clear()
        disk[2].clear()
        self.assertEqual(state(store), before)
        starts = self.store(0, 10, 2, 1, ("append", up(3, 13, 40))).seal()
        starts.clear()


class Model:
    """A store by the words of the document: samples in a dict of blocks by their spans, and in a list of batches."""

    def __init__(self, lateness, span, factor, levels):
        self.lateness, self.widths = lateness, [span * factor ** level for level in range(levels + 1)]
        self.floor, self.blocks, self.log, self.synced = 0, {}, [], 0

    def view(self):
        rows = list(self.blocks.values()) + self.log
        return sorted(sample for row in rows for sample in row if sample[1] >= self.floor)

    def closed(self, more=()):
        newest = max([sample[1] for sample in self.view() + list(more)] or [0])
        return max([0, newest - self.lateness] + [start + width for start, width in self.blocks])

    def append(self, samples):
        kept, answers = [], []
        for labels, time, value in samples:
            there = {sample[:2]: sample[2] for sample in self.view() + kept}
            if time < self.floor:
                answers.append("old")
            elif there.get((labels, time)) == value:
                answers.append("there")
            elif (labels, time) in there:
                answers.append("conflict")
            elif time < self.closed(kept):
                answers.append("late")
            else:
                answers.append("kept")
                kept.append((labels, time, value))
        self.log += [kept] if kept else []
        return answers

    def sync(self):
        self.synced = len(self.log)
        return self.synced

    def seal(self):
        self.sync()
        left = [sample for batch in self.log for sample in batch if sample[1] >= self.floor]
        closed, width = self.closed(), self.widths[0]
        starts = sorted({sample[1] // width * width for sample in left if sample[1] // width * width + width <= closed})
        for start in starts:
            self.blocks[start, width] = [sample for sample in left if start <= sample[1] < start + width]
        if starts:
            rest = sorted(sample for sample in left if sample[1] // width * width not in starts)
            self.log = [rest] if rest else []
            self.synced = len(self.log)
        return starts

    def compact(self):
        self.seal()
        found, closed = {}, self.closed()
        for row in self.blocks.values():
            for sample in row:
                if sample[1] >= self.floor:
                    spans = [(width, sample[1] // width * width) for width in self.widths]
                    width, start = max(span for span in spans if sum(span) <= closed)
                    found.setdefault((start, width), []).append(sample)
        self.blocks = found
        return len(found)

    def retain(self, time):
        self.sync()
        many = len(self.blocks)
        if time > self.floor:
            self.floor = time
            self.blocks = {span: row for span, row in self.blocks.items() if sum(span) > time}
        return many - len(self.blocks)


class HistoryTest(WatchTest):
    """Random histories of stores, beside the model."""

    def histories(self, many, seed):
        chance = random.Random(seed)
        for _ in range(many):
            settings = small_store(chance)
            store, model, time = Store(*settings), Model(*settings), 0
            for _ in range(25):
                time += chance.randint(0, 9)
                yield store, model, small_deed(chance, time)

    def test_as_the_model(self):
        answers = {}
        for store, model, deed in self.histories(150, 27):
            found = done(store, deed)
            self.assertEqual(found, done(model, deed), deed)
            self.assertEqual(store.view(), model.view())
            self.assertEqual((store.floor, store.closed, store.synced), (model.floor, model.closed(), model.synced))
            self.assertEqual(store.batches(), model.log)
            blocks = [block(start, width, *model.blocks[start, width]) for start, width in sorted(model.blocks)]
            self.assertEqual(store.blocks(), blocks)
            log = put_log(model.log)
            self.assertEqual(store.disk(), (model.floor, [put_block(one) for one in blocks], log,
                                            len(put_log(model.log[:model.synced]))))
            for answer in found if deed[0] == "append" else ():
                answers[answer] = answers.get(answer, 0) + 1
        self.assertEqual(sorted(answers), ["conflict", "kept", "late", "old", "there"])
        self.assertGreater(min(answers.values()), 50)

    def test_views_and_closed_times(self):
        """Point 37: what each deed does to the view, and that the greater one of floor and closed time never falls."""
        for store, _, deed in self.histories(150, 37):
            view, bound = store.view(), max(store.floor, store.closed)
            done(store, deed)
            if deed[0] in ("sync", "seal", "compact"):
                self.assertEqual(store.view(), view)
            if deed[0] == "retain":
                self.assertEqual(store.view(), [sample for sample in view if sample[1] >= deed[1]])
            self.assertGreaterEqual(max(store.floor, store.closed), bound)

    def test_few_blocks_after_compaction(self):
        chance = random.Random(38)
        most = {}
        for _ in range(200):
            lateness, span, factor, levels = small_store(chance)
            store, time = Store(lateness, span, factor, levels), 0
            for _ in range(20):
                time += chance.randint(0, 25)
                done(store, small_deed(chance, time))
                store.append([((), later, 0) for later in range(time, time + 6)])
            store.compact()
            widths = [found[1] for found in store.blocks()]
            for level in range(levels):
                many = widths.count(span * factor ** level)
                self.assertLess(many, factor)
                most[factor] = max(many, most.get(factor, 0))
        self.assertEqual(most, {2: 1, 3: 2})


if __name__ == "__main__":
    unittest.main()
