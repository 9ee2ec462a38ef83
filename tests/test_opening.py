"""Points 34 to 37: stages of deeds, and stores that are opened."""

import random
import unittest

from tests.support import WatchTest, done, small_deed, small_store
from watchfloor.blocks import put_block
from watchfloor.errors import Damaged
from watchfloor.logs import put_batch, put_log
from watchfloor.opening import crashed, open_store, stages
from watchfloor.samples import series_of
from watchfloor.stores import Store

UP, LOAD = (("metric", "up"),), (("job", "a"), ("metric", "load"))


def up(*times):
    return [(UP, time, 10 * time) for time in times]


def block(start, width, *samples):
    return put_block((start, width, series_of(sorted(samples))))


def state(store):
    return (store.floor, store.closed, store.synced, store.view(), store.blocks(), store.batches(), store.disk(),
            store.settings())


def store_of(lateness, span, factor, levels, *deeds):
    made = Store(lateness, span, factor, levels)
    for deed in deeds:
        done(made, deed)
    return made


class StagesTest(WatchTest):

    def stages(self, store, deed, *expected):
        """Check the stages of a deed; of the last one also that it is the disk behind the deed."""
        before = state(store)
        found = stages(store, deed)
        self.assertEqual(found, list(expected))
        self.assertEqual(repr(found), repr(list(expected)))
        self.assertEqual(state(store), before)
        twin = store.twin()
        done(twin, deed)
        self.assertEqual(found[-1], twin.disk())
        self.assertEqual(found[0], store.disk())

    def test_append(self):
        store = store_of(5, 10, 2, 0, ("append", up(3)), ("sync",))
        first, second = put_batch(up(3)), put_batch(up(4, 6))
        self.stages(store, ("append", up(4, 3, 6)), (0, [], first, len(first)), (0, [], first + second, len(first)))
        self.stages(Store(5, 10, 2, 0), ("append", up(3)), (0, [], [], 0), (0, [], first, 0))

    def test_append_without_kept_samples(self):
        store = store_of(5, 10, 2, 0, ("append", up(3)))
        log = put_batch(up(3))
        self.stages(store, ("append", up(3)), (0, [], log, 0), (0, [], log, 0))
        self.stages(store, ("append", []), (0, [], log, 0), (0, [], log, 0))

    def test_sync(self):
        store = store_of(5, 10, 2, 0, ("append", up(3)), ("append", up(4)))
        log = put_log([up(3), up(4)])
        self.stages(store, ("sync",), (0, [], log, 0), (0, [], log, len(log)))
        done(store, ("sync",))
        self.stages(store, ("sync",), (0, [], log, len(log)), (0, [], log, len(log)))
        self.stages(Store(5, 10, 2, 0), ("sync",), (0, [], [], 0), (0, [], [], 0))

    def test_seal(self):
        store = store_of(0, 10, 2, 0, ("append", up(3, 10)), ("seal",), ("append", up(12, 25, 38, 41)))
        old, new = block(0, 10, *up(3)), [block(10, 10, *up(10, 12)), block(20, 10, *up(25)), block(30, 10, *up(38))]
        log, rest = put_log([up(10), up(12, 25, 38, 41)]), put_batch(up(41))
        many = len(log)
        self.stages(store, ("seal",), (0, [old], log, len(put_batch(up(10)))), (0, [old], log, many),
                    (0, [old] + new[:1], log, many), (0, [old] + new[:2], log, many), (0, [old] + new, log, many),
                    (0, [old] + new, rest, len(rest)))

    def test_seal_with_nothing_to_write(self):
        log = put_batch(up(3))
        self.stages(store_of(5, 10, 2, 0, ("append", up(3))), ("seal",), (0, [], log, 0), (0, [], log, len(log)))
        self.stages(Store(5, 10, 2, 0), ("seal",), (0, [], [], 0), (0, [], [], 0))

    def test_seal_leaves_an_empty_log(self):
        store, _ = open_store(0, 10, 2, 0, floor=0, blocks=[block(10, 10, *up(12)), ], log=put_batch(up(3)))
        log = put_batch(up(3))
        found = stages(store, ("seal",))
        old, new = block(10, 10, *up(12)), block(0, 10, *up(3))
        self.assertEqual(found, [(0, [old], log, len(log)), (0, [old], log, len(log)), (0, [old, new], log, len(log)),
                                 (0, [old, new], [], 0)])

    def test_compact(self):
        store = store_of(0, 10, 2, 1, ("append", up(3, 12, 20)), ("seal",), ("append", up(41)), ("append", up(45)))
        log, rest = put_log([up(20), up(41), up(45)]), put_batch(up(41, 45))
        old = [block(0, 10, *up(3)), block(10, 10, *up(12)), block(20, 10, *up(20))]
        new = [block(0, 20, *up(3, 12)), block(20, 20, *up(20))]
        many, less = len(log), len(rest)
        self.stages(store, ("compact",), (0, old[:2], log, len(put_batch(up(20)))), (0, old[:2], log, many),
                    (0, old, log, many), (0, old, rest, less), (0, old + new[:1], rest, less), (0, old + new, rest, less),
                    (0, old[1:] + new, rest, less), (0, old[2:] + new, rest, less), (0, new, rest, less))

    def test_compact_writes_blocks_that_are_there_already(self):
        store = store_of(0, 10, 2, 1, ("append", up(3, 12, 20, 30)), ("compact",))
        wide, narrow, log = block(0, 20, *up(3, 12)), block(20, 10, *up(20)), put_batch(up(30))
        many = len(log)
        self.stages(store, ("compact",), (0, [wide, narrow], log, many), (0, [wide, narrow], log, many),
                    (0, [wide, narrow, wide], log, many), (0, [wide, narrow, wide, narrow], log, many),
                    (0, [narrow, wide, narrow], log, many), (0, [wide, narrow], log, many))

    def test_compact_behind_a_retention(self):
        store = store_of(0, 10, 2, 0, ("append", up(3, 8, 13, 23, 50)), ("seal",), ("retain", 8), ("append", up(51)))
        old = [block(0, 10, *up(3, 8)), block(10, 10, *up(13)), block(20, 10, *up(23))]
        new, log = block(0, 10, *up(8)), put_log([up(50), up(51)])
        self.stages(store, ("compact",), (8, old, log, len(put_batch(up(50)))), (8, old, log, len(log)),
                    (8, old + [new], log, len(log)), (8, old + [new, old[1]], log, len(log)),
                    (8, old + [new] + old[1:], log, len(log)), (8, old[1:] + [new] + old[1:], log, len(log)),
                    (8, [old[2], new] + old[1:], log, len(log)), (8, [new] + old[1:], log, len(log)))

    def test_compact_deletes_a_block_of_dropped_samples_alone(self):
        store = store_of(0, 10, 2, 0, ("append", up(3, 50)), ("seal",), ("retain", 8))
        old, log = block(0, 10, *up(3)), put_batch(up(50))
        self.stages(store, ("compact",), (8, [old], log, len(log)), (8, [old], log, len(log)), (8, [], log, len(log)))

    def test_compact_with_nothing_to_write(self):
        log = put_batch(up(3))
        self.stages(store_of(5, 10, 2, 1, ("append", up(3))), ("compact",), (0, [], log, 0), (0, [], log, len(log)))

    def test_retain(self):
        store = store_of(0, 10, 2, 0, ("append", up(3, 13, 23, 50)), ("seal",), ("append", up(51)))
        blocks = [block(0, 10, *up(3)), block(10, 10, *up(13)), block(20, 10, *up(23))]
        log = put_log([up(50), up(51)])
        first, many = len(put_batch(up(50))), len(log)
        self.stages(store, ("retain", 20), (0, blocks, log, first), (0, blocks, log, many), (20, blocks, log, many),
                    (20, blocks[1:], log, many), (20, blocks[2:], log, many))
        self.stages(store, ("retain", 9), (0, blocks, log, first), (0, blocks, log, many), (9, blocks, log, many))
        self.stages(store, ("retain", 30), (0, blocks, log, first), (0, blocks, log, many), (30, blocks, log, many),
                    (30, blocks[1:], log, many), (30, blocks[2:], log, many), (30, [], log, many))

    def test_retain_not_above_the_floor(self):
        store = store_of(0, 10, 2, 0, ("append", up(13, 50)), ("seal",), ("retain", 8), ("append", up(51)))
        blocks, log = [block(10, 10, *up(13))], put_log([up(50), up(51)])
        for time in (0, 7, 8):
            self.stages(store, ("retain", time), (8, blocks, log, len(put_batch(up(50)))), (8, blocks, log, len(log)))

    def test_stages_are_lists_of_their_own(self):
        store = store_of(0, 10, 2, 1, ("append", up(3, 13, 50)), ("seal",), ("append", up(61)))
        before = state(store)
        for deed in (("append", up(62)), ("sync",), ("seal",), ("compact",), ("retain", 9)):
            for place in range(len(stages(store, deed))):
                found = stages(store, deed)
                others = repr(found[:place] + found[place + 1:])
                for data in found[place][1]:
                    data.append(7)
                found[place][1].append([])
                found[place][2].append(7)
                self.assertEqual(repr(found[:place] + found[place + 1:]), others)
                self.assertEqual(state(store), before)

    def test_samples_that_are_handed_in_stay(self):
        samples = up(62)
        stages(Store(0, 10, 2, 1), ("append", samples))[1][2].clear()
        self.assertEqual(samples, up(62))


class OpenTest(WatchTest):

    def opened(self, floor, blocks, log, left_over=0, settings=(0, 10, 2, 2)):
        """Return what is opened, and check the number of bytes left over, and that nothing is changed."""
        before = repr((blocks, log))
        found = open_store(*settings, floor=floor, blocks=blocks, log=log)
        self.assertIs(type(found), tuple)
        store, many = found
        self.assertIs(type(store), Store)
        self.assertEqual(many, left_over)
        self.assertEqual(repr((blocks, log)), before)
        return store

    def spans(self, expected, floor, blocks):
        store = self.opened(floor, blocks, [])
        self.assertEqual([found[:2] for found in store.blocks()], expected)
        return store

    def damaged(self, place, blocks, settings=(0, 10, 2, 2), floor=0):
        before = repr(blocks)
        with self.assertRaises(Damaged) as caught:
            open_store(*settings, floor=floor, blocks=blocks, log=[])
        self.assertIs(type(caught.exception), Damaged)
        self.assertEqual(caught.exception.place, place)
        self.assertEqual(repr(blocks), before)

    def test_nothing(self):
        store = self.opened(0, [], [], settings=(3, 10, 2, 2))
        self.assertEqual(state(store), state(Store(3, 10, 2, 2)))
        self.assertEqual(self.opened(7, [], []).floor, 7)

    def test_settings(self):
        store = self.opened(0, [], put_batch(up(3, 30)), settings=(5, 7, 3, 1))
        other = store_of(5, 7, 3, 1, ("append", up(3, 30)), ("sync",))
        self.assertEqual(state(store), state(other))
        for deed in (("seal",), ("append", up(60)), ("compact",)):
            self.assertEqual(done(store, deed), done(other, deed))
            self.assertEqual(state(store), state(other))

    def test_damaged_blocks(self):
        good = block(10, 10, *up(12))
        for wrong in ([], good[:-1], good + [0], block(10, 11, *up(12)), block(10, 5, *up(12)), block(10, 80, *up(12)),
                      block(5, 10, *up(12)), block(10, 20, *up(12)), block(20, 40, *up(22)), [10, 10, 0]):
            self.damaged(0, [wrong])
            self.damaged(1, [good, wrong])
            self.damaged(1, [good, wrong, good])
            self.damaged(0, [wrong, good, wrong])
            self.damaged(2, [good, good, wrong])

    def test_widths_are_those_of_the_levels(self):
        for levels in range(4):
            for level in range(6):
                data = [block(0, 10 * 3 ** level, *up(2))]
                if level <= levels:
                    store = self.opened(0, data, [], settings=(0, 10, 3, levels))
                    self.assertEqual([found[:2] for found in store.blocks()], [(0, 10 * 3 ** level)])
                else:
                    self.damaged(0, data, settings=(0, 10, 3, levels))

    def test_damaged_blocks_that_would_not_count(self):
        self.damaged(1, [block(0, 40, *up(12)), block(5, 10, *up(12))])
        self.damaged(0, [block(5, 10, *up(12))], floor=500)

    def test_blocks_in_another_order(self):
        one, two, three = block(0, 20, *up(3)), block(20, 10, *up(22)), block(40, 40, *up(55))
        for blocks in ([one, two, three], [three, two, one], [two, three, one]):
            store = self.spans([(0, 20), (20, 10), (40, 40)], 0, blocks)
            self.assertEqual(store.view(), up(3, 22, 55))
            self.assertEqual(store.closed, 80)
            self.assertEqual(store.disk(), (0, [one, two, three], [], 0))

    def test_blocks_listed_twice(self):
        one, other = block(10, 10, *up(12)), block(10, 10, *up(13))
        self.assertEqual(self.spans([(10, 10)], 0, [one, one]).view(), up(12))
        self.assertEqual(self.spans([(10, 10)], 0, [one, other]).view(), up(12))
        self.assertEqual(self.spans([(10, 10)], 0, [other, one, other]).view(), up(13))

    def test_blocks_within_wider_ones(self):
        wide, wider = block(20, 20, *up(25)), block(0, 40, *up(26))
        narrow = [block(start, 10, *up(start)) for start in (0, 10, 20, 30, 40)]
        self.assertEqual(self.spans([(0, 10), (10, 10), (20, 20), (40, 10)], 0, narrow + [wide]).view(), up(0, 10, 25, 40))
        self.assertEqual(self.spans([(0, 10), (10, 10), (20, 20), (40, 10)], 0, [wide] + narrow).view(), up(0, 10, 25, 40))
        self.assertEqual(self.spans([(0, 40), (40, 10)], 0, narrow + [wide, wider]).view(), up(26, 40))
        self.assertEqual(self.spans([(0, 40), (40, 10)], 0, [wider, wide] + narrow).view(), up(26, 40))

    def test_blocks_at_the_floor(self):
        blocks = [block(0, 10, *up(3)), block(10, 10, *up(12, 18)), block(20, 20, *up(39))]
        for floor, spans, view in (
            (0, [(0, 10), (10, 10), (20, 20)], up(3, 12, 18, 39)), (9, [(0, 10), (10, 10), (20, 20)], up(12, 18, 39)),
            (10, [(10, 10), (20, 20)], up(12, 18, 39)), (13, [(10, 10), (20, 20)], up(18, 39)),
            (19, [(10, 10), (20, 20)], up(39)), (20, [(20, 20)], up(39)), (39, [(20, 20)], up(39)), (40, [], []),
        ):
            store = self.spans(spans, floor, blocks)
            self.assertEqual(store.view(), view)
            self.assertEqual(store.floor, floor)

    def test_log(self):
        log = put_log([up(3), [(LOAD, 2, 1), (UP, 1, 5)]])
        store = self.opened(0, [], log)
        self.assertEqual(store.batches(), [up(3), [(LOAD, 2, 1), (UP, 1, 5)]])
        self.assertEqual(store.synced, 2)
        self.assertEqual(store.disk(), (0, [], log, len(log)))
        self.assertEqual(store.closed, 3)

    def test_further_bytes_behind_the_log(self):
        log = put_log([up(3), up(4)])
        for more in ([0], [1], [255], [0] + log, log[:5], put_batch(up(10001))):
            store = self.opened(0, [], log + more, left_over=len(more))
            self.assertEqual(store.batches(), [up(3), up(4)])
            self.assertEqual(store.disk(), (0, [], log, len(log)))
        self.assertEqual(self.opened(0, [], [0, 1, 2], left_over=3).batches(), [])

    def test_samples_below_the_floor(self):
        log = put_log([up(3, 9), up(10, 4), up(5), up(11)])
        self.assertEqual(self.opened(10, [], log).batches(), [up(10), up(11)])
        self.assertEqual(self.opened(9, [], log).batches(), [up(9), up(10), up(11)])
        self.assertEqual(self.opened(12, [], log).batches(), [])
        self.assertEqual(self.opened(10, [], log).synced, 2)

    def test_samples_in_the_span_of_a_block(self):
        log = put_log([up(3, 9), up(10, 4), up(19, 20), [(LOAD, 12, 1)], up(39, 40)])
        blocks = [block(10, 10, *up(12)), block(20, 20, *up(22))]
        store = self.opened(0, blocks, log)
        self.assertEqual(store.batches(), [up(3, 9), up(4), up(40)])
        self.assertEqual(store.synced, 3)
        self.assertEqual(store.view(), up(3, 4, 9, 12, 22, 40))

    def test_blocks_that_do_not_count_take_no_samples(self):
        log = put_log([up(3, 13)])
        blocks = [block(0, 10, *up(4)), block(10, 10, *up(14)), block(0, 20, *up(5))]
        self.assertEqual(self.opened(0, blocks[:2], log).batches(), [])
        self.assertEqual(self.opened(0, blocks, log).view(), up(5))
        self.assertEqual(self.opened(10, blocks[:1], log).view(), up(13))
        self.assertEqual(self.opened(10, blocks, log).view(), [])
        self.assertEqual(self.opened(10, blocks[:1] + blocks[2:], log).batches(), [])

    def test_samples_told_twice(self):
        log = put_log([up(3), up(3), [(UP, 4, 1), (UP, 4, 1), (UP, 4, 2)], [(UP, 3, 7), (LOAD, 3, 30), (UP, 4, 40)]])
        store = self.opened(0, [], log)
        self.assertEqual(store.batches(), [up(3), [(UP, 4, 1)], [(LOAD, 3, 30)]])
        self.assertEqual(store.view(), [(LOAD, 3, 30), (UP, 3, 30), (UP, 4, 1)])

    def test_one_that_does_not_count_does_not_stand_in_the_way(self):
        self.assertEqual(self.opened(4, [], put_log([[(UP, 3, 1)], [(UP, 4, 2)], [(UP, 3, 1)]])).batches(), [[(UP, 4, 2)]])

    def test_late_samples_in_a_log_count(self):
        store = self.opened(0, [block(40, 10, *up(44))], put_log([up(60), up(3)]))
        self.assertEqual(store.batches(), [up(60), up(3)])
        self.assertEqual(store.seal(), [0])
        self.assertEqual([found[0] for found in store.blocks()], [0, 40])

    def test_opened_store_stays_apart_from_what_was_handed_in(self):
        blocks, log = [block(0, 10, *up(3))], put_batch(up(12))
        store, _ = open_store(0, 10, 2, 0, floor=0, blocks=blocks, log=log)
        before = state(store)
        blocks[0].clear()
        blocks.clear()
        log.clear()
        self.assertEqual(state(store), before)


class CrashTest(WatchTest):

    def test_what_is_not_synced_is_lost(self):
        store = store_of(0, 10, 2, 1, ("append", up(3, 13, 40)), ("compact",), ("append", up(41)), ("retain", 1),
                         ("append", up(42)), ("append", up(43)))
        before = state(store)
        found = crashed(store)
        self.assertIs(type(found), Store)
        self.assertEqual(state(store), before)
        self.assertEqual(found.view(), up(3, 13, 40, 41))
        self.assertEqual(found.batches(), [up(40), up(41)])
        self.assertEqual((found.floor, found.synced, found.blocks()), (1, 2, store.blocks()))
        self.assertEqual(found.settings(), store.settings())
        found.append(up(50))
        self.assertEqual(state(store), before)

    def test_nothing_is_synced_or_all_is(self):
        store = store_of(0, 10, 2, 1, ("append", up(3)))
        self.assertEqual(crashed(store).view(), [])
        store.sync()
        self.assertEqual(state(crashed(store)), state(store))
        self.assertEqual(state(crashed(Store(5, 4, 3, 2))), state(Store(5, 4, 3, 2)))

    def test_every_stage_of_every_deed(self):
        """Point 37: wherever a store crashes, and however much is lost, it opens to a view that is allowed."""
        chance = random.Random(36)
        many = {}
        for _ in range(25):
            settings = small_store(chance)
            store, time = Store(*settings), 0
            for _ in range(14):
                time += chance.randint(0, 9)
                deed = small_deed(chance, time)
                after = store.twin()
                done(after, deed)
                found = stages(store, deed)
                self.assertEqual((found[0], found[-1]), (store.disk(), after.disk()))
                many.setdefault(deed[0], []).append(len(found))
                for disk in found:
                    self.lost(settings, disk, store, after)
                store = after
        for word, least in (("append", 2), ("sync", 2), ("seal", 4), ("compact", 6), ("retain", 4)):
            self.assertEqual(min(many[word]), 2, word)
            self.assertGreaterEqual(max(many[word]), least, word)

    def lost(self, settings, disk, before, after):
        """Check what is opened from a disk that has lost any number of bytes that are not synced."""
        floor, blocks, log, synced = disk
        allowed = [after.view()] + self.views(before)
        for end in range(synced, len(log) + 1):
            store, left_over = open_store(*settings, floor=floor, blocks=blocks, log=log[:end])
            self.assertIn(store.view(), allowed)
            self.assertEqual(store.settings(), settings)
            self.assertEqual(store.synced, len(store.batches()))
            self.assertLessEqual(left_over, end - synced)

    def views(self, store):
        """Return the views of a store without some of the last batches that are not synced."""
        floor, blocks, log, _ = store.disk()
        batches = store.batches()
        found = []
        for kept in range(store.synced, len(batches) + 1):
            part = store.twin()
            part.restore(floor, store.blocks(), batches[:kept], store.synced)
            found.append(part.view())
        return found

    def test_histories_with_crashes(self):
        """A store that crashed and was opened again goes on as one that never had what was lost."""
        chance = random.Random(39)
        for _ in range(40):
            settings = small_store(chance)
            store, time = Store(*settings), 0
            for _ in range(20):
                time += chance.randint(0, 9)
                deed = small_deed(chance, time)
                view, bound = store.view(), max(store.floor, store.closed)
                done(store, deed)
                if deed[0] in ("sync", "seal", "compact"):
                    self.assertEqual(store.view(), view)
                if chance.random() < 0.2:
                    store = crashed(store)
                elif deed[0] != "append":
                    self.assertEqual(crashed(store).view(), store.view())
                    self.assertGreaterEqual(max(store.floor, store.closed), bound)


if __name__ == "__main__":
    unittest.main()
