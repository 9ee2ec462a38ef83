"""Points 32 and 33, batches and the log."""

import unittest

from tests.support import WatchTest
from watchfloor.logs import put_batch, put_log, take_log
from watchfloor.numbers import put_integer, put_labels, put_number

UP, LOAD = (("metric", "up"),), (("job", "a"), ("metric", "load"))
UP_BYTES = [1, 6, 109, 101, 116, 114, 105, 99, 2, 117, 112]
LOAD_BYTES = [2, 3, 106, 111, 98, 1, 97, 6, 109, 101, 116, 114, 105, 99, 4, 108, 111, 97, 100]
FIRST = [(UP, 3, 5)]
FIRST_BYTES = [1] + UP_BYTES + [3, 10]
SECOND = [(UP, 300, -1), (LOAD, 0, 64), (UP, 2, 0)]
SECOND_BYTES = [3] + UP_BYTES + [172, 2, 1] + LOAD_BYTES + [0, 128, 1] + UP_BYTES + [2, 0]
THIRD = [((), 10000, 1 - 10 ** 15)]
THIRD_BYTES = [1, 0] + put_number(10000) + put_integer(1 - 10 ** 15)
BATCHES, BYTES = (FIRST, SECOND, THIRD), (FIRST_BYTES, SECOND_BYTES, THIRD_BYTES)


def written(*samples):
    """Return the bytes of a batch of samples that need not be plain."""
    data = put_number(len(samples))
    for labels, time, value in samples:
        data += put_labels(labels) + put_number(time) + put_integer(value)
    return data


class LogTest(WatchTest):

    def test_batches_by_hand(self):
        for samples, data in zip(BATCHES, BYTES):
            self.gives(data, put_batch, samples)
            self.gives(([samples], 0), take_log, data)

    def test_no_batch(self):
        self.gives([], put_log, [])
        self.gives(([], 0), take_log, [])

    def test_several_batches(self):
        self.gives(FIRST_BYTES + SECOND_BYTES + THIRD_BYTES, put_log, [FIRST, SECOND, THIRD])
        self.gives(([FIRST, SECOND, THIRD], 0), take_log, FIRST_BYTES + SECOND_BYTES + THIRD_BYTES)
        self.gives(([FIRST, FIRST], 0), take_log, FIRST_BYTES + FIRST_BYTES)

    def test_cut_at_each_place(self):
        data = FIRST_BYTES + SECOND_BYTES + THIRD_BYTES
        ends = [0, len(FIRST_BYTES), len(FIRST_BYTES + SECOND_BYTES), len(data)]
        for cut in range(len(data) + 1):
            whole = max(many for many in range(4) if ends[many] <= cut)
            self.gives((list(BATCHES[:whole]), cut - ends[whole]), take_log, data[:cut])

    def test_batch_without_samples(self):
        self.gives(([], 1), take_log, [0])
        self.gives(([], 1 + len(FIRST_BYTES)), take_log, [0] + FIRST_BYTES)
        self.gives(([FIRST], 1 + len(THIRD_BYTES)), take_log, FIRST_BYTES + [0] + THIRD_BYTES)

    def test_sample_that_is_not_plain_in_the_middle(self):
        seven = tuple(("n%d" % k, "v") for k in range(7))
        for sample in ((UP, 10001, 1), (UP, 3, 10 ** 15), (UP, 3, -10 ** 15), (seven, 3, 1), ((("b", "1"), ("a", "1")), 3, 1),
                       ((("a", "1"), ("a", "1")), 3, 1), ((("a", ""),), 3, 1), ((("1", "1"),), 3, 1), ((("a" * 21, "1"),), 3, 1),
                       ((("a", "A"),), 3, 1)):
            for batch in (written(sample), written(FIRST[0], sample), written(sample, FIRST[0]),
                          written(FIRST[0], sample, SECOND[0])):
                self.gives(([], len(batch)), take_log, batch)
                self.gives(([SECOND], len(batch) + len(FIRST_BYTES)), take_log, SECOND_BYTES + batch + FIRST_BYTES)

    def test_plain_samples_at_the_limits(self):
        six = tuple(("n%d" % k, "v") for k in range(6))
        batch = [(UP, 10000, 1), (UP, 3, 10 ** 15 - 1), (six, 0, 1 - 10 ** 15)]
        self.gives(([batch], 0), take_log, written(*batch))

    def test_numbers_that_are_not_in_as_few_groups_as_possible(self):
        for wrong in ([129, 0] + FIRST_BYTES[1:], [1] + UP_BYTES + [131, 0, 10], [1] + UP_BYTES + [3, 138, 0]):
            self.gives(([FIRST], len(wrong)), take_log, FIRST_BYTES + wrong)

    def test_great_number_of_samples(self):
        wrong = [255] * 20 + [1] + FIRST_BYTES[1:]
        self.gives(([FIRST], len(wrong)), take_log, FIRST_BYTES + wrong)

    def test_same_sample_twice_is_a_batch(self):
        self.gives(([FIRST * 2], 0), take_log, put_batch(FIRST * 2))

    def test_results_are_new(self):
        batches = [list(FIRST), list(SECOND)]
        put_log(batches).clear()
        put_batch(batches[0]).clear()
        self.assertEqual(batches, [FIRST, SECOND])
        data = put_log(batches)
        found, _ = take_log(data)
        found[0].clear()
        found.clear()
        self.assertEqual(take_log(data), ([FIRST, SECOND], 0))


if __name__ == "__main__":
    unittest.main()
