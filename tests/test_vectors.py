import itertools
import unittest

from folderkin.vectors import compare, count_of, counts_of, join, raised

VECTORS = [
    (), ((1, 1),), ((1, 2),), ((2, 1),), ((9, 4),), ((1, 1), (2, 1)), ((1, 2), (2, 1)), ((1, 1), (2, 2)),
    ((1, 1), (9, 3)), ((2, 7), (5, 1), (9, 9)), ((1, 4), (2, 7), (5, 1), (9, 9)),
    tuple((device, device) for device in range(1, 10)), tuple((device, 10 - device) for device in range(1, 10)),
    ((3, 4294967295),)]


def table(vector):
    return [dict(vector).get(device, 0) for device in range(1, 10)]


class Counts(unittest.TestCase):
    def test_count_of(self):
        vector = ((1, 4), (3, 258), (9, 1))
        self.assertEqual([count_of(vector, device) for device in range(1, 10)], [4, 0, 258, 0, 0, 0, 0, 0, 1])
        self.assertEqual([count_of((), device) for device in range(1, 10)], [0] * 9)

    def test_counts_of(self):
        self.assertEqual(counts_of(()), (0,) * 9)
        self.assertEqual(counts_of(((1, 4), (3, 258), (9, 1))), (4, 0, 258, 0, 0, 0, 0, 0, 1))
        for vector in VECTORS:
            self.assertEqual(counts_of(vector), tuple(table(vector)))
            self.assertIs(type(counts_of(vector)), tuple)


class Comparing(unittest.TestCase):
    def test_each_answer(self):
        for first, second, word in (
            ((), (), "equal"), (((1, 4),), ((1, 4),), "equal"), ((), ((5, 1),), "less"), (((5, 1),), (), "greater"),
            (((1, 4),), ((1, 5),), "less"), (((1, 5),), ((1, 4),), "greater"), (((1, 4),), ((1, 4), (3, 1)), "less"),
            (((1, 4), (3, 1)), ((3, 1),), "greater"), (((1, 4),), ((2, 2),), "apart"),
            (((1, 4), (2, 1)), ((1, 3), (2, 2)), "apart"), (((1, 4),), ((1, 3), (9, 1)), "apart"),
            (((1, 1), (2, 1)), ((1, 2), (2, 1)), "less"), (((1, 1), (2, 1)), ((1, 2), (3, 1)), "apart"),
        ):
            self.assertEqual(compare(first, second), word, (first, second))

    def test_by_the_counts(self):
        for first, second in itertools.product(VECTORS, repeat=2):
            less = any(a < b for a, b in zip(table(first), table(second)))
            greater = any(a > b for a, b in zip(table(first), table(second)))
            word = {(False, False): "equal", (True, False): "less", (False, True): "greater", (True, True): "apart"}
            self.assertEqual(compare(first, second), word[less, greater])


class Joining(unittest.TestCase):
    def test_some(self):
        self.assertEqual(join((), ()), ())
        self.assertEqual(join(((1, 4), (2, 1)), ((2, 7),)), ((1, 4), (2, 7)))
        self.assertEqual(join(((5, 1),), ((1, 1),)), ((1, 1), (5, 1)))

    def test_by_the_counts(self):
        for first, second in itertools.product(VECTORS, repeat=2):
            found = join(first, second)
            self.assertEqual(table(found), [max(row) for row in zip(table(first), table(second))])
            self.assertEqual(list(found), sorted(found))
            self.assertTrue(all(type(pair) is tuple and pair[1] > 0 for pair in found))
            self.assertIn(compare(first, found), ("equal", "less"))


class Raising(unittest.TestCase):
    def test_at_each_place(self):
        vector = ((2, 7), (5, 1))
        for device, expected in (
            (1, ((1, 9), (2, 7), (5, 1))), (2, ((2, 9), (5, 1))), (3, ((2, 7), (3, 9), (5, 1))),
            (5, ((2, 7), (5, 9))), (9, ((2, 7), (5, 1), (9, 9))),
        ):
            self.assertEqual(raised(vector, device, 9), expected)
        self.assertEqual(raised((), 4, 1), ((4, 1),))
        self.assertEqual(vector, ((2, 7), (5, 1)))

    def test_it_is_greater(self):
        for vector in VECTORS:
            for device in range(1, 10):
                found = raised(vector, device, count_of(vector, device) + 3)
                self.assertIs(type(found), tuple)
                self.assertEqual(compare(vector, found), "less")
                self.assertEqual(count_of(found, device), count_of(vector, device) + 3)
                self.assertEqual([pair for pair in found if pair[0] != device],
                                 [pair for pair in vector if pair[0] != device])
