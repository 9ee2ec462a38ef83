"""Point 31: numbers, integers, texts and labels as bytes."""

import itertools
import random
import unittest

from tests.support import WatchTest
from watchfloor.numbers import put_integer, put_labels, put_number, put_text
from watchfloor.numbers import take_integer, take_labels, take_number, take_text

NUMBERS = {
    0: [0], 1: [1], 127: [127], 128: [128, 1], 129: [129, 1], 255: [255, 1], 256: [128, 2], 300: [172, 2],
    16383: [255, 127], 16384: [128, 128, 1], 16385: [129, 128, 1], 2097151: [255, 255, 127],
    2097152: [128, 128, 128, 1], 2 ** 70: [128] * 10 + [1],
}
INTEGERS = {
    0: [0], -1: [1], 1: [2], -2: [3], 2: [4], 63: [126], -64: [127], 64: [128, 1], -65: [129, 1], 150: [172, 2],
    -150: [171, 2], 2 ** 69: [128] * 10 + [1], -2 ** 69: [255] * 9 + [127],
}
TEXTS = {"": [0], "a": [1, 97], "z": [1, 122], "_": [1, 95], "09": [2, 48, 57], "up_1": [4, 117, 112, 95, 49],
         "a" * 20: [20] + [97] * 20, "b" * 130: [130, 1] + [98] * 130}
LABELS = {
    (): [0],
    (("a", "1"),): [1, 1, 97, 1, 49],
    (("a", "1"), ("bc", "x_")): [2, 1, 97, 1, 49, 2, 98, 99, 2, 120, 95],
    (("b", "1"), ("a", "2")): [2, 1, 98, 1, 49, 1, 97, 1, 50],
    (("a", "1"), ("a", "1")): [2, 1, 97, 1, 49, 1, 97, 1, 49],
}


class BytesTest(WatchTest):

    def written(self, put, take, table):
        """Check both directions, at the beginning of bytes, within them, and cut at each place."""
        for thing, data in table.items():
            self.gives(data, put, thing)
            self.gives((thing, len(data)), take, data, 0)
            self.gives((thing, len(data)), take, data + [0, 200], 0)
            self.gives((thing, 2 + len(data)), take, [200, 7] + data, 2)
            self.gives((thing, 2 + len(data)), take, [0, 0] + data + [200], 2)
            for cut in range(len(data)):
                self.gives(None, take, data[:cut], 0)
                self.gives(None, take, [9] + data[:cut], 1)
            for behind in (0, 1, 5):
                self.gives(None, take, data, len(data) + behind)

    def test_empty_bytes(self):
        for take in (take_number, take_integer, take_text, take_labels):
            self.gives(None, take, [], 0)
            self.gives(None, take, [], 3)

    def test_results_are_new(self):
        for put, thing in ((put_number, 300), (put_integer, -3), (put_text, "up"), (put_labels, (("a", "1"),))):
            before = put(thing)
            put(thing).clear()
            self.assertEqual(put(thing), before)


class NumberTest(BytesTest):

    def test_numbers(self):
        self.written(put_number, take_number, NUMBERS)

    def test_many_numbers(self):
        for number in list(range(3000)) + [2 ** k + more for k in range(8, 80) for more in (-1, 0, 1)]:
            data = put_number(number)
            self.assertEqual(sum((group % 128) * 128 ** k for k, group in enumerate(data)), number)
            self.assertEqual([group >= 128 for group in data], [True] * (len(data) - 1) + [False])
            self.assertTrue(len(data) == 1 or data[-1] > 0)
            self.assertEqual(take_number(data, 0), (number, len(data)))

    def test_as_few_groups_as_possible(self):
        for data in ([128, 0], [129, 0], [255, 0], [128, 128, 0], [172, 130, 0], [255] * 9 + [0]):
            self.gives(None, take_number, data, 0)
            self.gives(None, take_number, data + [1], 0)
            self.gives(None, take_integer, data, 0)
        self.gives((0, 1), take_number, [0, 0], 0)
        self.gives((0, 2), take_number, [128, 0], 1)

    def test_all_short_bytes(self):
        """Of all bytes, just those that are written for a number are read as one."""
        written = {tuple(put_number(number)): number for number in range(128 * 128)}
        for data in itertools.product((0, 1, 2, 126, 127, 128, 129, 254, 255), repeat=2):
            expected = (written[data], 2) if data in written else None
            if data[:1] in written:
                expected = (written[data[:1]], 1)
            self.gives(expected, take_number, list(data), 0)


class IntegerTest(BytesTest):

    def test_integers(self):
        self.written(put_integer, take_integer, INTEGERS)

    def test_many_integers(self):
        for number in list(range(-3000, 3000)) + [sign * (2 ** k + 1) for k in range(8, 80) for sign in (1, -1)]:
            data = put_integer(number)
            self.assertEqual(data, put_number(2 * number if number >= 0 else -2 * number - 1))
            self.assertEqual(take_integer(data, 0), (number, len(data)))


class TextTest(BytesTest):

    def test_texts(self):
        self.written(put_text, take_text, TEXTS)

    def test_number_of_characters_in_several_groups(self):
        self.gives(None, take_text, [128, 0], 0)
        self.gives(None, take_text, [129, 0, 97], 0)
        self.gives(None, take_text, [255] * 8 + [1, 97, 97], 0)

    def test_characters(self):
        taken = "".join(chr(place) for place in range(256) if take_text([1] + put_number(place), 0) is not None)
        self.assertEqual(taken, "0123456789_abcdefghijklmnopqrstuvwxyz")
        for character in "A -{`/:\n\x00\x7f\xff":
            self.gives(None, take_text, put_text(character), 0)
            self.gives(None, take_text, put_text("ab" + character), 0)
            self.gives(None, take_text, put_text(character + "ab"), 0)
        self.gives(None, take_text, [1, 225, 0], 0)

    def test_wrong_character_behind_the_text_does_not_matter(self):
        self.gives(("ab", 3), take_text, [2, 97, 98, 65], 0)


class LabelsTest(BytesTest):

    def test_labels(self):
        self.written(put_labels, take_labels, LABELS)

    def test_wrong_characters(self):
        self.gives(None, take_labels, [1, 1, 65, 1, 49], 0)
        self.gives(None, take_labels, [1, 1, 97, 1, 65], 0)
        self.gives(None, take_labels, [2, 1, 97, 1, 49, 1, 98, 1, 45], 0)
        self.gives(((("a", "1"),), 5), take_labels, [1, 1, 97, 1, 49, 1, 98, 1, 45], 0)

    def test_number_of_pairs_not_in_as_few_groups_as_possible(self):
        self.gives(None, take_labels, [128, 0], 0)
        self.gives(None, take_labels, [129, 0, 1, 97, 1, 49], 0)

    def test_many_pairs(self):
        labels = tuple(("n%d" % k, "v" * (k % 20 + 1)) for k in range(200))
        data = put_labels(labels)
        self.assertEqual(data[:2], [200, 1])
        self.gives((labels, len(data)), take_labels, data, 0)

    def test_random_bytes(self):
        """What is taken is just what is written."""
        chance = random.Random(31)
        pieces = ([0], [1], [2], [1, 97], [1, 49], [128, 1], [128, 0], [1, 65], [97], [200])
        for put, take in ((put_number, take_number), (put_integer, take_integer), (put_text, take_text),
                          (put_labels, take_labels)):
            seen = 0
            for _ in range(1500):
                data = [one for _ in range(chance.randint(0, 7)) for one in chance.choice(pieces)]
                at = chance.randint(0, 2)
                taken = take(data, at)
                if taken is not None:
                    seen += 1
                    self.assertEqual(data[at:taken[1]], put(taken[0]))
            self.assertGreater(seen, 100)


if __name__ == "__main__":
    unittest.main()
