import itertools
import unittest

from folderkin.entries import Entry, alike, copy_name, copy_of, edited, key_of, root_of, winner
from tests.samples import entry, parts_of


class Entries(unittest.TestCase):
    def test_attributes(self):
        value = Entry("b", ((2, 3),), 5, (2, 3), True, 7, ())
        self.assertEqual(parts_of(value), ("b", ((2, 3),), 5, (2, 3), True, 7, ()))

    def test_equal(self):
        self.assertTrue(entry() == entry())
        self.assertFalse(entry() != entry())

    def test_each_attribute_counts(self):
        for part, other in (
            ("name", "b"), ("vector", ((1, 5),)), ("height", 2), ("maker", (2, 4)), ("maker", (1, 5)),
            ("deleted", True), ("time", 11), ("blocks", (354,)), ("blocks", ()), ("vector", ((1, 4), (2, 1))),
        ):
            self.assertFalse(entry() == entry(**{part: other}), part)
            self.assertTrue(entry() != entry(**{part: other}), part)

    def test_no_value_of_another_class_is_equal(self):
        for other in (None, "a", 1, parts_of(entry()), [entry()]):
            self.assertFalse(entry() == other)


class Editing(unittest.TestCase):
    def test_without_a_base(self):
        found = edited(None, "a", 3, 8, False, 10, (353, 256))
        self.assertEqual(parts_of(found), ("a", ((3, 8),), 1, (3, 8), False, 10, (353, 256)))

    def test_with_a_base(self):
        base = Entry("a", ((2, 5), (4, 1)), 6, (4, 1), False, 99, (353,))
        before = parts_of(base)
        found = edited(base, "a", 3, 8, False, 10, (354,))
        self.assertEqual(parts_of(found), ("a", ((2, 5), (3, 8), (4, 1)), 7, (3, 8), False, 10, (354,)))
        found = edited(base, "a", 2, 6, True, 0, ())
        self.assertEqual(parts_of(found), ("a", ((2, 6), (4, 1)), 7, (2, 6), True, 0, ()))
        self.assertEqual(parts_of(base), before)

    def test_over_a_deleted_base(self):
        base = edited(None, "a", 1, 1, True, 5, ())
        self.assertEqual(parts_of(edited(base, "a", 1, 2, False, 3, ())), ("a", ((1, 2),), 2, (1, 2), False, 3, ()))


class Alike(unittest.TestCase):
    def test_blocks(self):
        other = Entry("b", ((7, 7),), 9, (7, 7), False, 0, (353,))
        self.assertIs(alike(entry(), other), True)
        self.assertIs(alike(entry(), entry(blocks=(354,))), False)
        self.assertIs(alike(entry(), entry(blocks=(353, 353))), False)
        self.assertIs(alike(entry(blocks=()), entry(blocks=())), True)

    def test_deleted_ones(self):
        gone = entry(deleted=True, blocks=())
        self.assertIs(alike(gone, Entry("b", ((7, 7),), 9, (7, 7), True, 0, ())), True)
        self.assertIs(alike(gone, entry()), False)
        self.assertIs(alike(entry(), gone), False)
        self.assertIs(alike(gone, entry(blocks=())), False)
        self.assertIs(alike(entry(blocks=()), gone), False)


class Keys(unittest.TestCase):
    def test_all_parts(self):
        value = Entry("a", ((1, 4), (9, 2)), 3, (9, 2), False, 77, (353,))
        self.assertEqual(key_of(value), (3, 77, 1, -9, -2, (4, 0, 0, 0, 0, 0, 0, 0, 2)))
        value = Entry("a", ((2, 6),), 1, (2, 6), True, 0, ())
        self.assertEqual(key_of(value), (1, 0, 0, -2, -6, (0, 6, 0, 0, 0, 0, 0, 0, 0)))

    def test_each_part_decides_ahead_of_the_later_ones(self):
        # From a part on, the first of each two is greater; the parts behind it speak for the second one.
        low = Entry("a", ((1, 1),), 1, (5, 5), True, 1, ())
        for better, worse in (
            (Entry("a", (), 2, (9, 9), True, 0, ()), low),
            (Entry("a", (), 1, (9, 9), True, 2, ()), low),
            (Entry("a", (), 1, (9, 9), False, 1, ()), low),
            (Entry("a", (), 1, (4, 9), True, 1, ()), low),
            (Entry("a", (), 1, (5, 4), True, 1, ()), low),
            (Entry("a", ((1, 2),), 1, (5, 5), True, 1, ()), low),
            (Entry("a", ((1, 1), (9, 1)), 1, (5, 5), True, 1, ()), low),
        ):
            self.assertGreater(key_of(better), key_of(worse))

    def test_name_and_blocks_do_not_count(self):
        self.assertEqual(key_of(entry(name="b", blocks=(400,))), key_of(entry()))


class Winners(unittest.TestCase):
    def test_one_entry(self):
        self.assertEqual(winner([entry()]), entry())

    def test_the_greatest_key(self):
        first, second, third = entry(height=2, blocks=(1 << 32,)), entry(height=3, time=1), entry(time=99, blocks=())
        for row in itertools.permutations([first, second, third]):
            self.assertEqual(winner(list(row)), second)

    def test_a_deleted_one_may_win(self):
        gone = entry(height=2, deleted=True, blocks=())
        self.assertEqual(winner([entry(), gone]), gone)
        gone = entry(deleted=True, blocks=())
        self.assertEqual(winner([gone, entry()]), entry())

    def test_of_equal_keys_the_first_one(self):
        first, second = entry(blocks=(353,)), entry(blocks=(354,))
        self.assertEqual(winner([first, second]), first)
        self.assertEqual(winner([second, first]), second)

    def test_alike_entries_are_joined(self):
        best = entry(height=3, vector=((2, 7),), maker=(2, 7), time=5)
        like = entry(vector=((1, 4), (2, 1)), time=99)
        more = entry(vector=((3, 1),), height=2)
        other = entry(vector=((4, 4),), blocks=(354,))
        for row in itertools.permutations([best, like, more, other]):
            found = winner(list(row))
            self.assertEqual(parts_of(found), ("a", ((1, 4), (2, 7), (3, 1)), 3, (2, 7), False, 5, (353,)))

    def test_deleted_entries_are_joined(self):
        best = entry(height=2, vector=((2, 7),), deleted=True, blocks=())
        like = entry(vector=((1, 4),), deleted=True, blocks=())
        empty = entry(vector=((3, 3),), blocks=())
        self.assertEqual(winner([like, empty, best]).vector, ((1, 4), (2, 7)))

    def test_what_is_passed_stays_as_it_was(self):
        row = [entry(vector=((2, 7),)), entry(vector=((1, 9),))]
        before = [parts_of(value) for value in row]
        items = list(row)
        found = winner(row)
        self.assertEqual([parts_of(value) for value in row], before)
        self.assertTrue(all(one is other for one, other in zip(row, items)) and len(row) == 2)
        self.assertEqual(found.vector, ((1, 9), (2, 7)))


class Copies(unittest.TestCase):
    def test_roots(self):
        for name, root in (
            ("a", "a"), ("a/b.txt", "a/b.txt"), ("a~1-2", "a"), ("a~b~c", "a"), ("~", ""), ("~a", ""), ("~~", ""),
            ("a~", "a"), ("~1-2~3-4", "")):
            self.assertEqual(root_of(name), root)

    def test_copy_names(self):
        self.assertEqual(copy_name(entry()), "a~1-4")
        self.assertEqual(copy_name(entry(name="a/b~1-2", maker=(9, 4294967295))), "a/b~9-4294967295")
        self.assertEqual(copy_name(entry(name="~x", maker=(3, 10))), "~3-10")
        self.assertEqual(copy_name(entry(name="a~1-4~2-2", maker=(1, 4))), "a~1-4")

    def test_copies(self):
        value = Entry("a~x", ((1, 4), (2, 7)), 8, (2, 7), False, 33, (353, 256))
        before = parts_of(value)
        found = copy_of(value, 5, 12)
        self.assertEqual(parts_of(found), ("a~2-7", ((5, 12),), 1, (2, 7), False, 33, (353, 256)))
        self.assertEqual(parts_of(value), before)
        self.assertTrue(alike(found, value))
