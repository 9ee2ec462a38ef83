"""Points 32 and 33, blocks: their bytes, and bytes that are none; blocks of views."""

import random
import unittest

from tests.support import WatchTest, small_view
from watchfloor.blocks import block_of, put_block, samples_of, take_block
from watchfloor.errors import NotABlock
from watchfloor.numbers import put_integer, put_labels, put_number

UP, LOAD = (("metric", "up"),), (("job", "a"), ("metric", "load"))
UP_BYTES = [1, 6, 109, 101, 116, 114, 105, 99, 2, 117, 112]
LOAD_BYTES = [2, 3, 106, 111, 98, 1, 97, 6, 109, 101, 116, 114, 105, 99, 4, 108, 111, 97, 100]
ONE = (20, 10, [(UP, [(20, 5)])])
ONE_BYTES = [20, 10, 1] + UP_BYTES + [1, 0, 10]
TWO = (20, 10, [(LOAD, [(20, 3), (21, 3), (25, -1), (29, 300)]), (UP, [(29, -64)])])
TWO_BYTES = [20, 10, 2] + LOAD_BYTES + [4, 0, 6, 0, 0, 3, 7, 3, 218, 4] + UP_BYTES + [1, 9, 127]
BARE = (0, 1, [((), [(0, 0)])])
BARE_BYTES = [0, 1, 1, 0, 1, 0, 0]
LATE = (10000, 1000, [(UP, [(10000, 10 ** 15 - 1)])])


def written(start, width, *series):
    """Return bytes; each of the series is labels and steps, which are pairs of a gap and a change."""
    data = put_number(start) + put_number(width) + put_number(len(series))
    for labels, steps in series:
        data += put_labels(labels) + put_number(len(steps))
        for gap, change in steps:
            data += put_number(gap) + put_integer(change)
    return data


class BytesTest(WatchTest):

    def test_by_hand(self):
        for block, data in ((ONE, ONE_BYTES), (TWO, TWO_BYTES), (BARE, BARE_BYTES)):
            self.gives(data, put_block, block)
            self.gives(block, take_block, data)

    def test_last_time_and_greatest_values(self):
        data = written(10000, 1000, (UP, [(0, 10 ** 15 - 1)]))
        self.gives(data, put_block, LATE)
        self.gives(LATE, take_block, data)
        block = (9990, 11, [(UP, [(9990, 1 - 10 ** 15), (10000, 10 ** 15 - 1)])])
        data = written(9990, 11, (UP, [(0, 1 - 10 ** 15), (9, 2 * (10 ** 15 - 1))]))
        self.gives(data, put_block, block)
        self.gives(block, take_block, data)

    def test_first_and_last_time_of_the_span(self):
        block = (30, 10, [(UP, [(30, 1), (39, 2)])])
        data = written(30, 10, (UP, [(0, 1), (8, 1)]))
        self.gives(data, put_block, block)
        self.gives(block, take_block, data)

    def test_start_that_is_no_multiple_of_the_width(self):
        block = (7, 3, [(UP, [(8, 1)])])
        self.gives(block, take_block, put_block(block))

    def test_six_labels(self):
        labels = tuple(("n%d" % k, "v") for k in range(6))
        block = (0, 5, [(labels, [(3, 1)])])
        self.gives(block, take_block, put_block(block))

    def test_results_are_new(self):
        data = list(TWO_BYTES)
        block = take_block(data)
        block[2][0][1].clear()
        block[2].clear()
        self.assertEqual(data, TWO_BYTES)
        self.assertEqual(take_block(data), TWO)
        put_block(TWO).clear()
        self.assertEqual(put_block(TWO), TWO_BYTES)


class NotABlockTest(WatchTest):

    def wrong(self, data):
        self.refused(NotABlock, {}, take_block, data)

    def test_each_cut(self):
        for whole in (ONE_BYTES, TWO_BYTES, BARE_BYTES):
            for cut in range(len(whole)):
                self.wrong(whole[:cut])

    def test_further_bytes(self):
        for whole in (ONE_BYTES, TWO_BYTES, BARE_BYTES):
            for more in ([0], [1], [255], whole):
                self.wrong(whole + more)

    def test_width(self):
        self.wrong(written(0, 0, (UP, [(0, 1)])))
        self.wrong(written(0, 0))
        take_block(written(0, 1, (UP, [(0, 1)])))

    def test_no_series_and_no_points(self):
        self.wrong(written(20, 10))
        self.wrong(written(20, 10, (UP, [])))
        self.wrong(written(20, 10, (LOAD, []), (UP, [(0, 1)])))
        self.wrong(written(20, 10, (LOAD, [(0, 1)]), (UP, [])))

    def test_order_of_the_series(self):
        take_block(written(20, 10, (LOAD, [(0, 1)]), (UP, [(0, 1)])))
        self.wrong(written(20, 10, (UP, [(0, 1)]), (LOAD, [(0, 1)])))
        self.wrong(written(20, 10, (UP, [(0, 1)]), (UP, [(0, 1)])))
        self.wrong(written(20, 10, (UP, [(0, 1)]), (UP, [(1, 1)])))
        self.wrong(written(20, 10, (LOAD, [(0, 1)]), (UP, [(0, 1)]), (LOAD, [(1, 1)])))
        take_block(written(20, 10, ((), [(0, 1)]), (UP, [(0, 1)])))
        self.wrong(written(20, 10, (UP, [(0, 1)]), ((), [(0, 1)])))

    def test_times_beyond_the_span(self):
        take_block(written(20, 10, (UP, [(9, 1)])))
        self.wrong(written(20, 10, (UP, [(10, 1)])))
        self.wrong(written(20, 10, (UP, [(9, 1), (0, 1)])))
        self.wrong(written(20, 10, (UP, [(0, 1), (0, 1), (8, 1)])))
        take_block(written(20, 10, (UP, [(0, 1), (0, 1), (7, 1)])))
        self.wrong(written(20, 10, (LOAD, [(10, 1)]), (UP, [(0, 1)])))

    def test_samples_that_are_not_plain(self):
        take_block(written(10000, 10, (UP, [(0, 1)])))
        self.wrong(written(10000, 10, (UP, [(1, 1)])))
        self.wrong(written(10001, 10, (UP, [(0, 1)])))
        self.wrong(written(0, 10, (UP, [(0, 10 ** 15)])))
        self.wrong(written(0, 10, (UP, [(0, -10 ** 15)])))
        self.wrong(written(0, 10, (UP, [(0, 10 ** 15 - 1), (0, 1)])))
        take_block(written(0, 10, (UP, [(0, 10 ** 15 - 1), (0, -1)])))

    def test_labels_that_are_none(self):
        for labels in (
            (("b", "1"), ("a", "1")), (("a", "1"), ("a", "1")), (("a", "1"), ("a", "2")), (("1a", "1"),), (("_a", "1"),),
            (("", "1"),), (("a", ""),), (("a" * 21, "1"),), (("a", "1" * 21),), tuple(("n%d" % k, "v") for k in range(7)),
            (("a", "A"),), (("a-", "1"),),
        ):
            self.wrong(written(0, 10, (labels, [(0, 1)])))
        take_block(written(0, 10, ((("a", "1"), ("b", "1")), [(0, 1)])))

    def test_numbers_that_are_not_in_as_few_groups_as_possible(self):
        longer = [148, 0, 10, 1] + UP_BYTES + [1, 0, 10]
        self.wrong(longer)
        self.wrong(ONE_BYTES[:-2] + [128, 0, 10])
        self.wrong(ONE_BYTES[:-1] + [138, 0])
        self.wrong([20, 10, 129, 0] + ONE_BYTES[3:])

    def test_great_numbers(self):
        great = [255] * 30 + [1]
        for data in ([20, 10] + great + UP_BYTES, [20, 10, 1] + great + UP_BYTES, [20, 10, 1] + UP_BYTES + great + [0, 10],
                     [20, 10, 1] + UP_BYTES + [1] + great + [10], [20, 10, 1] + UP_BYTES + [1, 0] + great,
                     great + [10, 1] + UP_BYTES + [1, 0, 10]):
            self.wrong(data)
        self.gives((20, 2 ** 211 - 1, ONE[2]), take_block, [20] + great + [1] + UP_BYTES + [1, 0, 10])

    def test_changed_bytes(self):
        """What is taken from changed bytes is a block whose bytes are just these."""
        chance = random.Random(33)
        taken = 0
        for _ in range(3000):
            data = list(chance.choice((ONE_BYTES, TWO_BYTES, BARE_BYTES)))
            for _ in range(chance.randint(1, 3)):
                data[chance.randrange(len(data))] = chance.choice((0, 1, 2, 5, 10, 97, 110, 127, 128, 255))
            try:
                block = take_block(data)
            except NotABlock:
                continue
            taken += 1
            self.assertEqual(put_block(block), data)
        self.assertGreater(taken, 100)


class SpanTest(WatchTest):

    VIEW = [(LOAD, 9, 1), (LOAD, 10, 2), (LOAD, 19, 3), (LOAD, 20, 4), (UP, 12, 5), (UP, 30, 6)]

    def test_samples_in_the_span(self):
        self.gives((10, 10, [(LOAD, [(10, 2), (19, 3)]), (UP, [(12, 5)])]), block_of, 10, 10, self.VIEW)
        self.gives((0, 10, [(LOAD, [(9, 1)])]), block_of, 0, 10, self.VIEW)
        self.gives((20, 10, [(LOAD, [(20, 4)])]), block_of, 20, 10, self.VIEW)
        self.gives((20, 11, [(LOAD, [(20, 4)]), (UP, [(30, 6)])]), block_of, 20, 11, self.VIEW)
        self.gives((12, 1, [(UP, [(12, 5)])]), block_of, 12, 1, self.VIEW)

    def test_span_without_samples(self):
        self.gives(None, block_of, 40, 10, self.VIEW)
        self.gives(None, block_of, 13, 6, self.VIEW)
        self.gives(None, block_of, 31, 1000, self.VIEW)
        self.gives(None, block_of, 0, 10, [])

    def test_view_of_a_block(self):
        self.gives([(LOAD, 20, 3), (LOAD, 21, 3), (LOAD, 25, -1), (LOAD, 29, 300), (UP, 29, -64)], samples_of, TWO)
        self.gives([((), 0, 0)], samples_of, BARE)

    def test_there_and_back(self):
        chance = random.Random(28)
        for _ in range(200):
            view, start, width = small_view(chance, 20), chance.randint(0, 12), chance.randint(1, 12)
            inside = [sample for sample in view if start <= sample[1] < start + width]
            block = block_of(start, width, view)
            if not inside:
                self.assertIsNone(block)
                continue
            self.gives(inside, samples_of, block)
            self.gives(block, take_block, put_block(block))

    def test_results_are_new(self):
        view = list(self.VIEW)
        block = block_of(10, 10, view)
        block[2][0][1].append((11, 0))
        block[2].pop()
        self.assertEqual(view, self.VIEW)
        self.assertEqual(len(block_of(10, 10, view)[2]), 2)
        samples = samples_of(TWO)
        samples.clear()
        self.assertEqual(len(samples_of(TWO)), 5)


if __name__ == "__main__":
    unittest.main()
