"""Scanning (points 07.1 to 07.3)."""

import itertools
import random
import unittest

from folderkin.book import Book, record_of
from folderkin.content import split
from folderkin.entries import edited
from folderkin.scanning import agrees, own_entry, scan, scan_name
from folderkin.store import Store
from tests.records import INTENT, OWN, PEER, log_of, told_by
from tests.samples import all_of, entry, gone, parts_of, power_cuts

CONTENT, OTHER = [1, 2, 3, 4, 5], [1, 2, 3, 4, 6]
BLOCKS = split(CONTENT)


def made(files, rows=()):
    """A store with these files and a log of these rows, and its book."""
    store = Store(files, log_of(rows))
    return store, Book(store)


class Agreeing(unittest.TestCase):
    def assert_agrees(self, content, value, expected):
        store = Store({} if content is None else {"a": (content, 77)}, [])
        store.write("b", [9], 1)
        store.append_temp("a", [1, 2])
        store.attic_put("a", (), CONTENT)
        kept = all_of(store)
        self.assertIs(agrees(store, value, "a"), expected)
        self.assertEqual(all_of(store), kept)

    def test_a_file(self):
        self.assert_agrees(CONTENT, None, False)
        self.assert_agrees(CONTENT, gone(), False)
        self.assert_agrees(CONTENT, entry(blocks=BLOCKS), True)
        self.assert_agrees(CONTENT, entry(blocks=split(OTHER)), False)
        self.assert_agrees(CONTENT, entry(blocks=BLOCKS[:1]), False)
        self.assert_agrees(CONTENT, entry(blocks=BLOCKS + BLOCKS), False)
        self.assert_agrees(CONTENT, entry(blocks=()), False)

    def test_an_empty_file(self):
        self.assert_agrees([], None, False)
        self.assert_agrees([], gone(), False)
        self.assert_agrees([], entry(blocks=()), True)
        self.assert_agrees([], entry(blocks=(256,)), False)

    def test_no_file(self):
        self.assert_agrees(None, None, True)
        self.assert_agrees(None, gone(), True)
        self.assert_agrees(None, entry(blocks=BLOCKS), False)
        self.assert_agrees(None, entry(blocks=()), False)

    def test_the_time_is_not_compared(self):
        for time in (0, 77, 78):
            self.assert_agrees(CONTENT, entry(blocks=BLOCKS, time=time), True)

    def test_all_else_of_the_entry_is_not_compared(self):
        self.assert_agrees(CONTENT, entry(blocks=BLOCKS, name="b", height=9, maker=(9, 9), vector=((9, 9),)), True)

    def test_the_file_of_the_name(self):
        store = Store({"a": ([1], 1), "b": ([2], 2)}, [])
        self.assertTrue(agrees(store, entry(name="b", blocks=split([2])), "b"))
        self.assertFalse(agrees(store, entry(name="b", blocks=split([1])), "b"))
        self.assertTrue(agrees(store, None, "c"))


class OwnEntry(unittest.TestCase):
    def test_own_entry(self):
        _, book = made({}, [(OWN, 0, entry(), 4), (PEER, 2, entry(name="b"), 3), (INTENT, 0, entry(name="c"), 5)])
        self.assertEqual(parts_of(own_entry(book, "a")), parts_of(entry()))
        self.assertIsNone(own_entry(book, "b"))
        self.assertIsNone(own_entry(book, "c"))


class ScanningNames(unittest.TestCase):
    def assert_scan(self, files, rows, expected, number=None):
        """Scans the name a at the device 3; it becomes the expected entry, with the number."""
        store, book = made(files, rows)
        kept, log, following = all_of(store)[:3], store.log(), book.next_number()
        found = scan_name(store, book, 3, "a", 55)
        self.assertEqual(all_of(store)[:3], kept)
        if expected is None:
            self.assertIsNone(found)
            self.assertEqual((store.log(), store.done()), (log, 0))
            return
        self.assertEqual(parts_of(found), parts_of(expected))
        self.assertEqual(following, number)
        self.assertEqual(store.log(), log + record_of(expected, number))
        self.assertEqual((parts_of(book.own("a")[0]), book.own("a")[1]), (parts_of(expected), number))
        self.assertIsNone(book.intent("a"))
        self.assertIsNone(scan_name(store, book, 3, "a", 56))

    def test_they_agree(self):
        self.assert_scan({}, [], None)
        self.assert_scan({}, [(OWN, 0, gone(), 1)], None)
        self.assert_scan({"a": (CONTENT, 9)}, [(OWN, 0, entry(blocks=BLOCKS), 1)], None)
        self.assert_scan({"a": ([], 9)}, [(OWN, 0, entry(blocks=()), 1)], None)

    def test_an_intent_stays_where_they_agree(self):
        value = entry(blocks=BLOCKS)
        for intent in (gone(), entry(blocks=BLOCKS, height=7)):
            store, book = made({"a": (CONTENT, 9)}, [(OWN, 0, value, 1), (INTENT, 0, intent, 2)])
            self.assertIsNone(scan_name(store, book, 3, "a", 55))
            self.assertEqual(parts_of(book.intent("a")), parts_of(intent))

    def test_a_new_file(self):
        expected = entry(vector=((3, 1),), maker=(3, 1), time=9, blocks=BLOCKS)
        self.assert_scan({"a": (CONTENT, 9)}, [], expected, 1)
        expected = entry(vector=((3, 8),), maker=(3, 8), time=0, blocks=())
        self.assert_scan({"a": ([], 0)}, [(OWN, 0, entry(name="b"), 7)], expected, 8)

    def test_a_changed_file(self):
        base = entry(vector=((1, 4), (3, 2)), height=6, blocks=split(OTHER))
        expected = entry(vector=((1, 4), (3, 8)), height=7, maker=(3, 8), time=9, blocks=BLOCKS)
        self.assert_scan({"a": (CONTENT, 9)}, [(OWN, 0, base, 7)], expected, 8)

    def test_a_file_over_a_deleted_entry(self):
        expected = entry(vector=((1, 4), (3, 8)), height=2, maker=(3, 8), time=9, blocks=BLOCKS)
        self.assert_scan({"a": (CONTENT, 9)}, [(OWN, 0, gone(), 7)], expected, 8)

    def test_a_file_that_is_gone(self):
        # A deleted entry has the time of the scan.
        expected = gone(vector=((1, 4), (3, 8)), height=2, maker=(3, 8), time=55)
        self.assert_scan({}, [(OWN, 0, entry(blocks=BLOCKS), 7)], expected, 8)
        self.assert_scan({}, [(OWN, 0, entry(blocks=()), 7)], expected, 8)

    def test_an_intent_that_agrees(self):
        for rows in ([], [(OWN, 0, entry(), 7)], [(OWN, 0, gone(), 7)]):
            intent = entry(vector=((5, 6),), height=3, maker=(5, 6), time=1, blocks=BLOCKS)
            number = 8 if rows else 1
            self.assert_scan({"a": (CONTENT, 9)}, rows + [(INTENT, 0, intent, 2)], intent, number)

    def test_a_deleted_intent_without_a_file(self):
        intent = gone(vector=((1, 4), (5, 6)), height=3, maker=(5, 6), time=1)
        self.assert_scan({}, [(OWN, 0, entry(), 7), (INTENT, 0, intent, 2)], intent, 8)

    def test_an_intent_that_does_not_agree(self):
        found = entry(vector=((1, 4), (3, 8)), height=2, maker=(3, 8), time=9, blocks=BLOCKS)
        for intent in (entry(blocks=split(OTHER), height=4), gone(height=4), entry(blocks=())):
            self.assert_scan({"a": (CONTENT, 9)}, [(OWN, 0, entry(), 7), (INTENT, 0, intent, 2)], found, 8)
        lost = gone(vector=((1, 4), (3, 8)), height=2, maker=(3, 8), time=55)
        for intent in (entry(blocks=split(OTHER), height=4), entry(blocks=())):
            self.assert_scan({}, [(OWN, 0, entry(), 7), (INTENT, 0, intent, 2)], lost, 8)

    def test_an_intent_for_another_name(self):
        intent = entry(name="b", blocks=BLOCKS)
        expected = entry(vector=((3, 1),), maker=(3, 1), time=9, blocks=BLOCKS)
        store, book = made({"a": (CONTENT, 9)}, [(INTENT, 0, intent, 2)])
        self.assertEqual(parts_of(scan_name(store, book, 3, "a", 5)), parts_of(expected))
        self.assertEqual(book.intents(), ["b"])

    def test_entries_of_peers_do_not_count(self):
        expected = entry(vector=((3, 1),), maker=(3, 1), time=9, blocks=BLOCKS)
        self.assert_scan({"a": (CONTENT, 9)}, [(PEER, 2, entry(blocks=BLOCKS), 5)], expected, 1)

    def test_all_cases(self):
        # Point 07.2, for each file, own entry and intent.
        files = [None, [], CONTENT, OTHER]
        values = [None, gone(height=5), entry(blocks=(), height=5), entry(blocks=BLOCKS, height=5)]
        for content, own, intent in itertools.product(files, values, values):
            rows = [] if own is None else [(OWN, 0, own, 6)]
            if intent is not None:
                rows.append((INTENT, 0, intent, 2))
            blocks = None if content is None else split(content)
            states = [None if one is None or one.deleted else one.blocks for one in (own, intent)]
            number = 1 if own is None else 7
            if states[0] == blocks:
                expected = None
            elif intent is not None and states[1] == blocks:
                expected = intent
            else:
                deleted = blocks is None
                expected = edited(own, "a", 3, number, deleted, 55 if deleted else 9, () if deleted else blocks)
            self.assert_scan({} if content is None else {"a": (content, 9)}, rows, expected, number)


class ScanningDevices(unittest.TestCase):
    def test_all_names(self):
        rows = [
            (OWN, 0, entry(name="old", blocks=BLOCKS), 1), (OWN, 0, gone(name="none"), 2),
            (OWN, 0, entry(name="same", blocks=BLOCKS), 3), (OWN, 0, entry(name="B", blocks=BLOCKS), 4),
            (PEER, 2, entry(name="peer", blocks=BLOCKS), 5), (INTENT, 0, entry(name="put", blocks=BLOCKS), 5),
            (INTENT, 0, entry(name="not", blocks=BLOCKS), 5)]
        files = {
            "z": (CONTENT, 1), "same": (CONTENT, 2), "a": ([], 3), "B": (OTHER, 4), "put": (CONTENT, 5)}
        store, book = made(files, rows)
        found = scan(store, book, 3, 55)
        self.assertIs(type(found), list)
        self.assertEqual([one.name for one in found], ["B", "a", "old", "put", "z"])
        self.assertEqual([book.own(one.name)[1] for one in found], [5, 6, 7, 8, 9])
        self.assertEqual([parts_of(book.own(one.name)[0]) for one in found], [parts_of(one) for one in found])
        self.assertEqual([one.time for one in found], [4, 3, 55, 10, 1])
        self.assertEqual([one.maker for one in found], [(3, 5), (3, 6), (3, 7), (1, 4), (3, 9)])
        self.assertEqual(book.intents(), ["not"])
        before = told_by(book)
        self.assertEqual(scan(store, book, 3, 60), [])
        self.assertEqual(told_by(book), before)

    def test_nothing_to_scan(self):
        store, book = made({})
        self.assertEqual(scan(store, book, 1, 5), [])
        self.assertEqual(store.done(), 0)

    def test_as_names_are_scanned(self):
        rng = random.Random(1)
        for _ in range(60):
            files = {name: (rng.choice([[], CONTENT, OTHER]), 3) for name in "abcd~" if rng.random() < 0.6}
            rows = []
            for name in "abce~":
                for kind in (OWN, INTENT):
                    if rng.random() < 0.5:
                        value = rng.choice([gone(name=name), entry(name=name, blocks=BLOCKS)])
                        rows.append((kind, 0, value, rng.randint(1, 9)))
            store, book = made(files, rows)
            other, plain = made(files, rows)
            one_by_one = [scan_name(other, plain, 3, name, 55) for name in "abcde~"]
            found = scan(store, book, 3, 55)
            self.assertEqual([parts_of(one) for one in found], [parts_of(one) for one in one_by_one if one])
            self.assertEqual(told_by(book), told_by(plain))
            self.assertEqual(all_of(store), all_of(other))

    def test_the_power_ends(self):
        # What was scanned ahead of the cut stays; scanning again finds the rest.
        files = {"a": (CONTENT, 1), "b": (OTHER, 2), "c": ([], 3)}
        rows = [(OWN, 0, entry(name="d"), 1), (INTENT, 0, entry(name="b", blocks=split(OTHER)), 1)]
        store, book = made(files, rows)
        scan(store, book, 3, 55)
        expected = told_by(book)
        for _, kept, _ in power_cuts(made(files, rows)[0], lambda store: scan(store, Book(store), 3, 55)):
            scan(kept, Book(kept), 3, 55)
            self.assertEqual(told_by(Book(kept)), expected)
