import random
import unittest

from folderkin.content import BLOCK, block_bytes, block_number, block_size, is_block, is_blocks, joined, split
from folderkin.errors import InvalidBlock

# The least and the greatest number of a block of each size.
RANGES = [(1, 256, 511), (2, 65536, 131071), (3, 1 << 24, (1 << 25) - 1), (4, 1 << 32, (1 << 33) - 1)]
NO_BLOCKS = [
    0, 1, 2, 255, 512, 513, 65535, 131072, (1 << 24) - 1, 1 << 25, (1 << 32) - 1, 1 << 33, 1 << 40, (1 << 41) - 1,
    1 << 48, 1 << 200, (1 << 200) + 5, 10 ** 800, -1, -2, -255, -256, -257, -511, -65536, -(1 << 24), -(1 << 32),
    -(1 << 33), -(10 ** 300)]
SIZES = [0, 1, 2, 3, 4, 5, 7, 8, 9, 119, 120, 1016, 1017, 1018, 1019, 1020]


def contents_of(size):
    rng = random.Random(size)
    yield [0] * size
    yield [255] * size
    yield [k % 256 for k in range(size)]
    yield [rng.randrange(256) for _ in range(size)]


class Blocks(unittest.TestCase):
    def test_size(self):
        self.assertEqual(BLOCK, 4)

    def test_numbers(self):
        for data, number in (
            ([7], 256 + 7), ([7, 9], 65536 + 7 * 256 + 9), ([0], 256), ([255], 511), ([0, 0], 65536),
            ([255, 255], 131071), ([0, 0, 0], 1 << 24), ([0, 0, 1], (1 << 24) + 1), ([255] * 3, (1 << 25) - 1),
            ([0] * 4, 1 << 32), ([1, 2, 3, 4], (1 << 32) + 0x01020304), ([255] * 4, (1 << 33) - 1), ([1, 0], 65792),
        ):
            self.assertEqual(block_number(data), number)
            self.assertEqual(block_bytes(number), data)

    def test_different_blocks_have_different_numbers(self):
        rows = [[k] for k in range(256)] + [[k, j] for k in range(256) for j in range(256)]
        self.assertEqual(len({block_number(row) for row in rows}), len(rows))

    def test_each_range_just_inside_and_just_outside(self):
        for size, least, most in RANGES:
            for number in (least, least + 1, (least + most) // 2, most - 1, most):
                self.assertEqual(block_size(number), size)
                self.assertIs(is_block(number), True)
                self.assertEqual(len(block_bytes(number)), size)
                self.assertEqual(block_number(block_bytes(number)), number)
            for number in (least - 1, most + 1, -least, -most):
                self.assertEqual(block_size(number), 0)
                self.assertIs(is_block(number), False)

    def test_integers_that_are_no_numbers_of_blocks(self):
        for number in NO_BLOCKS:
            self.assertEqual(block_size(number), 0, number)
            self.assertIs(is_block(number), False, number)
            with self.assertRaises(InvalidBlock) as caught:
                block_bytes(number)
            self.assertEqual(caught.exception.place, 0)

    def test_what_is_passed_stays_as_it_was(self):
        data = [1, 2, 3]
        block_number(data)
        self.assertEqual(data, [1, 2, 3])

    def test_lists_are_new(self):
        block_bytes(263).append(1)
        self.assertEqual(block_bytes(263), [7])


class Contents(unittest.TestCase):
    def test_split(self):
        self.assertEqual(split([]), ())
        self.assertEqual(split([7]), (263,))
        self.assertEqual(split([1, 2, 3, 4]), ((1 << 32) + 0x01020304,))
        self.assertEqual(split([0, 0, 0, 0, 0]), (1 << 32, 256))

    def test_each_size(self):
        for size in SIZES:
            for content in contents_of(size):
                blocks = split(content)
                self.assertIs(type(blocks), tuple)
                self.assertEqual(len(blocks), (size + 3) // 4)
                for index, number in enumerate(blocks):
                    self.assertEqual(block_bytes(number), content[4 * index:4 * index + 4])
                self.assertEqual([block_size(number) for number in blocks[:-1]], [4] * len(blocks[:-1]))
                self.assertIs(is_blocks(blocks), True)
                self.assertIs(is_blocks(list(blocks)), True)

    def test_joining_gives_the_content_again(self):
        for size in SIZES:
            for content in contents_of(size):
                self.assertEqual(joined(split(content)), content)
                self.assertEqual(joined(list(split(content))), content)

    def test_contents_are_equal_exactly_if_their_blocks_are(self):
        rows = [[], [0], [0, 0], [0] * 3, [0] * 4, [0] * 5, [1], [0, 1], [1, 0], [0, 0, 0, 0, 1], [0, 0, 0, 1]]
        for first in rows:
            for second in rows:
                self.assertEqual(split(first) == split(second), first == second)

    def test_what_is_passed_stays_as_it_was(self):
        content = [1, 2, 3, 4, 5]
        numbers = list(split(content))
        before = list(numbers)
        joined(numbers)
        is_blocks(numbers)
        self.assertEqual((content, numbers), ([1, 2, 3, 4, 5], before))

    def test_rows_are_compared_as_tuples(self):
        base = [5, 6, 7, 8, 9, 10, 11, 12, 13]
        for index in range(len(base)):
            more = base[:index] + [base[index] + 1] + base[index + 1:]
            self.assertLess(split(base), split(more))
        self.assertLess(split([9, 9, 9]), split([0, 0, 0, 0]))
        self.assertLess(split([1, 1, 1, 1, 255]), split([1, 1, 1, 1, 0, 0]))
        self.assertLess(split([1, 1, 1, 1]), split([1, 1, 1, 1, 0]))
        self.assertLess(split([]), split([0]))
        self.assertLess(split([1, 0, 255, 255]), split([1, 1, 0, 0]))

    def test_rows_with_a_byte_left_out(self):
        base = [9, 8, 7, 6, 5, 4, 3, 2]
        for index in range(len(base)):
            less = base[:index] + base[index + 1:]
            first, second = split(base), split(less)
            by_hand = [(len(part), part) for part in (base[:4], base[4:])] < [
                (len(part), part) for part in (less[:4], less[4:])]
            self.assertEqual(first < second, by_hand)


class Joining(unittest.TestCase):
    def test_shorter_blocks_anywhere(self):
        self.assertEqual(joined((263, 67328)), [7, 7, 0])
        self.assertEqual(joined([67328, 263, 263, 1 << 32, 1 << 24]), [7, 0, 7, 7, 0, 0, 0, 0, 0, 0, 0])

    def test_none_and_many(self):
        self.assertEqual(joined(()), [])
        self.assertEqual(joined([]), [])
        self.assertEqual(joined([263] * 256), [7] * 256)
        self.assertEqual(joined(((1 << 32) + 1,) * 1000), [0, 0, 0, 1] * 1000)

    def test_the_least_index_of_what_is_no_block(self):
        for number in NO_BLOCKS:
            for index in (0, 1, 2, 300):
                for kind in (list, tuple):
                    row = [263] * index + [number, 263, -1]
                    with self.assertRaises(InvalidBlock) as caught:
                        joined(kind(row))
                    self.assertEqual(caught.exception.place, index)


class Rows(unittest.TestCase):
    def test_255_and_256_items(self):
        full = 1 << 32
        for kind in (list, tuple):
            self.assertIs(is_blocks(kind([full] * 255)), True)
            self.assertIs(is_blocks(kind([full] * 254 + [256])), True)
            self.assertIs(is_blocks(kind([full] * 256)), False)
            self.assertIs(is_blocks(kind([full] * 255 + [256])), False)
            self.assertIs(is_blocks(kind([full] * 1000)), False)

    def test_none_and_one(self):
        for kind in (list, tuple):
            self.assertIs(is_blocks(kind([])), True)
            for _, least, most in RANGES:
                self.assertIs(is_blocks(kind([least])), True)
                self.assertIs(is_blocks(kind([most])), True)

    def test_a_shorter_block_ahead_of_the_end(self):
        full = (1 << 33) - 1
        for short in (256, 65536, 1 << 24):
            self.assertIs(is_blocks((full, short)), True)
            self.assertIs(is_blocks((short, full)), False)
            self.assertIs(is_blocks((short, short)), False)
            self.assertIs(is_blocks((full, short, full)), False)

    def test_what_is_no_block(self):
        full = 1 << 32
        for number in NO_BLOCKS:
            for row in ((number,), (full, number), (number, full), (full, number, 256), (number, number)):
                self.assertIs(is_blocks(row), False, row)
                self.assertIs(is_blocks(list(row)), False, row)
