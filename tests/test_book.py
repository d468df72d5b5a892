"""The book (points 06.1 to 06.6)."""

import random
import unittest

from folderkin.book import Book, intent_record, peer_record, read_log, record_of, upto_record
from folderkin.coding import entry_bytes
from folderkin.content import split
from folderkin.store import Store, from_durable
from tests.records import (
    INTENT, OWN, PEER, UPTO, book_of, expected_by, framed, known, log_of, needed_rows, record, told_by)
from tests.samples import LARGEST, entry, gone, parts_of, random_entry, random_number, shown

A1, A2 = entry(), entry(vector=((1, 5),), maker=(1, 5), blocks=(354,))
B1, B2 = entry(name="b"), gone(name="b", vector=((2, 9),))
C1 = entry(name="c/d", blocks=split([1, 2, 3, 4, 5]))
ROWS = [
    (OWN, 0, A1, 1), (PEER, 2, B1, 7), (UPTO, 2, None, 9), (INTENT, 0, B2, 2), (OWN, 0, B1, 3), (UPTO, 9, None, 0),
    (INTENT, 0, C1, 4), (PEER, 2, A2, 8), (PEER, 1, A2, LARGEST), (UPTO, 1, None, LARGEST)]


class Records(unittest.TestCase):
    def test_records_byte_by_byte(self):
        self.assertEqual(upto_record(3, 258), [0, 6, 2, 3, 0, 0, 1, 2, 15, 81])
        body = [0, 0, 0, 0, 8, 1, 97, 1, 1, 0, 0, 0, 4, 0, 0, 0, 1, 1, 0, 0, 0, 4, 0, 0, 0, 0, 10, 1, 1, 97]
        self.assertEqual(record_of(A1, 8), [0, 30] + body + [7, 80])
        self.assertEqual(record_of(A1, 8)[2:-2], [0] + entry_bytes(A1, 8))
        self.assertEqual(intent_record(A1, 8), framed([3] + body[1:]))
        self.assertEqual(peer_record(9, A1, 8), framed([1, 9] + body[1:]))
        self.assertEqual(peer_record(9, A1, 8)[:2], [0, 31])

    def test_the_least_and_the_greatest(self):
        self.assertEqual(upto_record(1, 0), framed([2, 1, 0, 0, 0, 0]))
        self.assertEqual(upto_record(9, LARGEST), framed([2, 9, 255, 255, 255, 255]))
        large = entry(name="~" * 40, vector=tuple((d, LARGEST) for d in range(1, 10)), blocks=split([255] * 1020))
        found = record_of(large, LARGEST)
        self.assertEqual(found, framed([0] + entry_bytes(large, LARGEST)))
        self.assertEqual(found[0] * 256 + found[1], len(found) - 4)
        self.assertEqual(found[0], 5)
        self.assertEqual(record_of(gone(), 1), framed([0] + entry_bytes(gone(), 1)))

    def test_lengths_of_bodies(self):
        seen = set()
        for size in range(400):
            value = entry(blocks=split([size % 256] * size))
            found = record_of(value, 1)
            self.assertEqual(found, framed([0] + entry_bytes(value, 1)))
            self.assertEqual(shown(read_log(found)[0]), shown([(OWN, 0, value, 1)]))
            seen.add(len(found) - 4)
        self.assertTrue({255, 256, 257, 510, 511, 512} <= seen)

    def test_the_check_is_taken_modulo_251(self):
        for number in range(0, 70000, 137):
            self.assertEqual(upto_record(5, number), record((UPTO, 5, None, number)))
        # The first number of the check is 0 here, for a sum of 250 or 501.
        self.assertEqual(upto_record(1, 241)[-2], 0)
        self.assertEqual(upto_record(1, 240)[-2], 250)
        self.assertEqual(upto_record(1, 242)[-2], 1)
        self.assertEqual(upto_record(1, 255 * 256 + 237)[-2], 0)

    def test_new_lists(self):
        for call, args in (
            (record_of, (A1, 1)), (intent_record, (A1, 1)), (peer_record, (2, A1, 1)), (upto_record, (2, 1))):
            first = call(*args)
            self.assertIs(type(first), list)
            kept = list(first)
            first.append(1)
            self.assertEqual(call(*args), kept)


class Logs(unittest.TestCase):
    def assert_told(self, data, rows, size=None):
        kept = list(data)
        found = read_log(data)
        self.assertIs(type(found), tuple)
        self.assertEqual(shown(found[0]), shown(list(rows)))
        self.assertEqual(found[1], len(log_of(rows)) if size is None else size)
        self.assertEqual(data, kept)

    def test_all_kinds(self):
        self.assert_told(log_of(ROWS), ROWS)
        self.assertIs(type(read_log(log_of(ROWS))[0]), list)
        self.assertEqual({type(row) for row in read_log(log_of(ROWS))[0]}, {tuple})
        self.assert_told([], [], 0)
        for row in ROWS:
            self.assert_told(record(row), [row])
            self.assert_told(record(row) * 3, [row] * 3)

    def test_a_log_that_is_cut_off(self):
        data = log_of(ROWS[:5])
        for size in range(len(data)):
            whole = [rows for rows in range(6) if len(log_of(ROWS[:rows])) <= size]
            self.assert_told(data[:size], ROWS[:whole[-1]])

    def test_a_byte_that_is_changed(self):
        rows = ROWS[:4]
        data = log_of(rows)
        for at in range(len(data)):
            ahead = [many for many in range(4) if len(log_of(rows[:many])) <= at][-1]
            # The check does not see a change by 251.
            for change in (1, 64, 128):
                changed = data[:at] + [data[at] ^ change] + data[at + 1:]
                self.assert_told(changed, rows[:ahead])

    def test_further_bytes(self):
        for behind in ([0], [0, 0], [0, 0, 1, 1], [0, 6, 2, 3], [255] * 9, [0, 1, 0, 0]):
            self.assert_told(log_of(ROWS[:2]) + behind, ROWS[:2])

    def test_bodies_of_another_form(self):
        pair = entry_bytes(A1, 8)
        no_number = [0, 0, 0, 0] + pair[4:]
        bodies = [
            [], [0], [1], [1, 2], [2], [2, 3], [3], [4], [4] + pair, [4, 2] + pair, [255, 1, 0, 0, 0, 1], [5, 1],
            [0] + pair[:-1], [0] + pair + [0], [0] + pair + pair, [0, 2] + pair, [0] + no_number, [0] + pair[1:],
            [3] + pair[:-1], [3] + pair + [7], [3] + no_number, [3, 1] + pair,
            [1, 0] + pair, [1, 10] + pair, [1, 255] + pair, [1] + pair, [1, 2] + pair[:-1], [1, 2] + pair + [0],
            [1, 2] + no_number, [1, 2, 2] + pair,
            [2, 0, 0, 0, 0, 1], [2, 10, 0, 0, 0, 1], [2, 3, 0, 0, 1], [2, 3, 0, 0, 0, 1, 0], [2, 3] + pair]
        for body in bodies:
            self.assert_told(framed(body), [], 0)
            self.assert_told(log_of(ROWS[:3]) + framed(body) + log_of(ROWS[3:]), ROWS[:3])
        # These are none of them.
        self.assert_told(framed([0] + pair), [(OWN, 0, A1, 8)])
        self.assert_told(framed([1, 9] + pair), [(PEER, 9, A1, 8)])
        self.assert_told(framed([2, 3, 0, 0, 0, 0]), [(UPTO, 3, None, 0)])
        self.assert_told(framed([3] + pair), [(INTENT, 0, A1, 8)])

    def test_entries_that_are_none(self):
        for at, byte in ((4, 0), (4, 41), (5, 32), (6, 0), (6, 10), (7, 0), (16, 10), (21, 2), (26, 2), (27, 5)):
            pair = entry_bytes(A1, 8)
            pair[at] = byte
            for kind in ([OWN], [PEER, 2], [INTENT]):
                self.assert_told(framed(kind + pair), [], 0)

    def test_wrong_checks(self):
        data = record(ROWS[0])
        for first, second in ((1, 0), (0, 1), (250, 0), (0, 250), (4, 4)):
            wrong = data[:-2] + [(data[-2] + first) % 251, (data[-1] + second) % 251]
            self.assert_told(wrong, [], 0)
        self.assert_told(data[:-2] + [data[-1], data[-2]], [], 0)
        # Both are less than 251; equal ones modulo 251 are not equal.
        small = upto_record(1, 242)
        self.assertEqual(small[-2], 1)
        self.assert_told(small[:-2] + [252, small[-1]], [], 0)

    def test_any_bytes(self):
        rng = random.Random(1)
        for _ in range(500):
            data = [rng.choice([0, 0, 0, 1, 2, 3, 6, rng.randrange(256)]) for _ in range(rng.randint(0, 40))]
            self.assert_told(data, [], 0)
            self.assert_told(log_of(ROWS[1:3]) + [255] + data, ROWS[1:3])


class Opening(unittest.TestCase):
    def opened(self, log, new_log=()):
        store = Store({"f": ([1], 1)}, log)
        store.new_log_append(list(new_log))
        store = from_durable(store.durable())
        return Book(store), store

    def test_an_empty_log(self):
        book, store = self.opened([])
        self.assertEqual(told_by(book), expected_by([]))
        self.assertEqual(book.next_number(), 1)
        self.assertEqual(store.done(), 0)
        self.assertIsNone(book.own("a"))
        self.assertIsNone(book.intent("a"))
        self.assertIsNone(book.peer(3, "a"))
        self.assertEqual(book.upto(3), 0)
        self.assertEqual((book.names(), book.peer_devices(), book.peer_names(3), book.peer_entries("a")), ([],) * 4)

    def test_nothing_is_written_for_whole_records(self):
        book, store = self.opened(log_of(ROWS))
        self.assertEqual(told_by(book), expected_by(ROWS))
        self.assertEqual(store.done(), 0)
        self.assertEqual(store.log(), log_of(ROWS))
        # Even if the log is long.
        rows = [(UPTO, 1, None, number) for number in range(1, 200)]
        book, store = self.opened(log_of(rows))
        self.assertEqual((store.done(), store.log()), (0, log_of(rows)))

    def test_a_new_log_is_emptied(self):
        for behind in ([1], log_of(ROWS[:1]), log_of(ROWS)):
            book, store = self.opened(log_of(ROWS), behind)
            self.assertEqual(told_by(book), expected_by(ROWS))
            self.assertEqual((store.log(), store.new_log(), store.done()), (log_of(ROWS), [], 1))

    def test_bytes_behind_the_last_whole_record(self):
        for behind in ([0], log_of(ROWS[:1])[:-1], [255] * 7, framed([4]) + log_of(ROWS[8:])):
            book, store = self.opened(log_of(ROWS[:8]) + behind)
            needed = log_of(needed_rows(ROWS[:8]))
            self.assertEqual(told_by(book), expected_by(ROWS[:8]))
            self.assertEqual((store.log(), store.new_log(), store.done()), (needed, [], len(needed) + 1))

    def test_bytes_behind_no_record(self):
        book, store = self.opened([1, 2, 3])
        self.assertEqual((store.log(), store.done(), book.next_number()), ([], 1, 1))

    def test_both(self):
        book, store = self.opened(log_of(ROWS) + [7], [5, 5])
        needed = log_of(needed_rows(ROWS))
        self.assertEqual((store.log(), store.new_log(), store.done()), (needed, [], len(needed) + 2))
        self.assertEqual(told_by(book), expected_by(ROWS))

    def test_opening_again_tells_the_same(self):
        for behind in ([], [7]):
            book, store = self.opened(log_of(ROWS) + behind)
            again = Book(store)
            self.assertEqual(told_by(again), told_by(book))
            self.assertEqual(told_by(Book(from_durable(store.durable()))), told_by(book))

    def test_later_records_replace_earlier_ones(self):
        # In a foreign log, also with lesser numbers.
        rows = [
            (OWN, 0, A1, 9), (OWN, 0, A2, 3), (PEER, 2, B1, 9), (PEER, 2, B2, 3), (UPTO, 2, None, 9),
            (UPTO, 2, None, 3), (INTENT, 0, C1, 9), (INTENT, 0, gone(name="c/d"), 3)]
        book, _ = self.opened(log_of(rows))
        self.assertEqual(told_by(book), expected_by(rows))
        self.assertEqual(shown(book.own("a")), (parts_of(A2), 3))
        self.assertEqual(shown(book.peer(2, "b")), (parts_of(B2), 3))
        self.assertEqual(book.upto(2), 3)
        self.assertEqual(parts_of(book.intent("c/d")), parts_of(gone(name="c/d")))
        self.assertEqual(book.next_number(), 10)

    def test_own_entries_and_intents(self):
        intent, own = (INTENT, 0, A1, 4), (OWN, 0, A2, 5)
        self.assertIsNone(self.opened(log_of([intent, own]))[0].intent("a"))
        self.assertEqual(parts_of(self.opened(log_of([own, intent]))[0].intent("a")), parts_of(A1))
        other = (OWN, 0, B1, 5)
        self.assertEqual(self.opened(log_of([intent, other]))[0].intents(), ["a"])
        # Entries of peers do not take intents away.
        self.assertEqual(self.opened(log_of([intent, (PEER, 2, A2, 5)]))[0].intents(), ["a"])

    def test_equal_numbers_in_foreign_logs(self):
        rows = [(OWN, 0, C1, 4), (OWN, 0, B1, 4), (OWN, 0, A1, 4), (OWN, 0, entry(name="B"), 2)]
        book, _ = self.opened(log_of(rows))
        self.assertEqual([pair[0].name for pair in book.behind(0)], ["B", "a", "b", "c/d"])
        self.assertEqual(book.needed(), log_of([rows[3], rows[2], rows[1], rows[0]]))

    def test_foreign_logs(self):
        rng = random.Random(2)
        for _ in range(150):
            rows = random_rows(rng)
            book, store = self.opened(log_of(rows), [1] * rng.randint(0, 1))
            self.assertEqual(told_by(book), expected_by(rows))
            book.compact()
            self.assertEqual(store.log(), log_of(needed_rows(rows)))
            self.assertEqual(told_by(book), expected_by(rows))


def random_rows(rng):
    rows = []
    for _ in range(rng.randint(0, 12)):
        kind = rng.randrange(4)
        device = rng.choice([1, 2, 9]) if kind in (PEER, UPTO) else 0
        if kind == UPTO:
            rows.append((kind, device, None, random_number(rng, 0)))
        else:
            rows.append((kind, device, random_entry(rng, rng.choice(["a", "b", "B", "a/", "~"])), random_number(rng)))
    return rows


class Taking(unittest.TestCase):
    def test_own_entries(self):
        book, store = book_of([])
        self.assertEqual(book.put(A1), 1)
        self.assertEqual(store.log(), record_of(A1, 1))
        self.assertEqual(book.put(B1), 2)
        self.assertEqual(book.put(A2), 3)
        self.assertEqual(store.log(), record_of(A1, 1) + record_of(B1, 2) + record_of(A2, 3))
        self.assertEqual(shown(book.own("a")), (parts_of(A2), 3))
        self.assertIs(type(book.own("a")), tuple)
        self.assertEqual(shown(book.behind(0)), [(parts_of(B1), 2), (parts_of(A2), 3)])
        self.assertEqual(shown(book.behind(2)), [(parts_of(A2), 3)])
        self.assertEqual(book.behind(3), [])
        self.assertEqual((book.names(), book.next_number()), (["a", "b"], 4))
        self.assertEqual(store.done(), len(store.log()))

    def test_numbers_follow_those_that_were_read(self):
        book, store = book_of([(OWN, 0, A1, 41), (OWN, 0, B1, 7), (PEER, 2, C1, 90), (INTENT, 0, C1, 80)])
        self.assertEqual(book.next_number(), 42)
        self.assertEqual(book.put(C1), 42)
        self.assertEqual(book.put(C1), 43)
        self.assertEqual(Book(store).next_number(), 44)

    def test_numbers_of_peers_and_intents_do_not_count(self):
        book, _ = book_of([(PEER, 2, C1, 90), (INTENT, 0, C1, 80), (UPTO, 3, None, 70)])
        self.assertEqual(book.next_number(), 1)
        book.intend(A1)
        book.put_peer(3, A1, 77)
        book.put_upto(3, 99)
        self.assertEqual(book.next_number(), 1)

    def test_intents(self):
        book, store = book_of([(OWN, 0, A1, 5)])
        before = store.log()
        self.assertIsNone(book.intend(A2))
        self.assertEqual(store.log(), before + intent_record(A2, 6))
        self.assertIsNone(book.intend(C1))
        self.assertIsNone(book.intend(B2))
        self.assertEqual(book.intents(), ["a", "b", "c/d"])
        self.assertEqual(parts_of(book.intent("a")), parts_of(A2))
        self.assertEqual(book.next_number(), 6)
        # Intents are no entries.
        self.assertEqual((book.names(), book.all_names()), (["a"], ["a"]))
        self.assertEqual(parts_of(book.own("a")[0]), parts_of(A1))
        book.intend(A1)
        self.assertEqual(parts_of(book.intent("a")), parts_of(A1))
        self.assertEqual(book.put(B1), 6)
        self.assertEqual(book.intents(), ["a", "c/d"])
        self.assertIsNone(book.intent("b"))
        book.intend(A1)
        # The number of an intent is that of the time when it was taken.
        self.assertEqual(book.needed(), log_of([
            (OWN, 0, A1, 5), (OWN, 0, B1, 6), (INTENT, 0, A1, 7), (INTENT, 0, C1, 6)]))

    def test_peers(self):
        book, store = book_of([])
        self.assertIs(book.put_peer(3, A1, 5), True)
        self.assertEqual(store.log(), peer_record(3, A1, 5))
        self.assertIs(book.put_peer(3, A2, 5), False)
        self.assertIs(book.put_peer(3, A2, 4), False)
        self.assertEqual(store.log(), peer_record(3, A1, 5))
        self.assertEqual(shown(book.peer(3, "a")), (parts_of(A1), 5))
        self.assertIs(book.put_peer(3, A2, 6), True)
        self.assertEqual(shown(book.peer(3, "a")), (parts_of(A2), 6))
        # Other names and other peers have numbers of their own.
        self.assertIs(book.put_peer(3, C1, 1), True)
        self.assertIs(book.put_peer(1, A1, 2), True)
        self.assertEqual((book.peer_names(3), book.peer_names(1), book.peer_names(2)), (["a", "c/d"], ["a"], []))
        self.assertEqual(shown(book.peer_entries("a")), [parts_of(A1), parts_of(A2)])
        self.assertEqual(shown(book.peer_entries("c/d")), [parts_of(C1)])
        self.assertEqual(book.peer_entries("b"), [])
        self.assertEqual((book.names(), book.all_names()), ([], ["a", "c/d"]))
        self.assertEqual((book.peer_devices(), book.next_number(), book.upto(3)), ([1, 3], 1, 0))
        self.assertIsNone(book.own("a"))

    def test_numbers_up_to_which_entries_are_known(self):
        book, store = book_of([])
        self.assertIsNone(book.put_upto(4, 0))
        self.assertEqual((store.log(), book.peer_devices()), ([], []))
        self.assertIsNone(book.put_upto(4, 7))
        self.assertEqual(store.log(), upto_record(4, 7))
        for number in (0, 6, 7):
            self.assertIsNone(book.put_upto(4, number))
        self.assertEqual((store.log(), book.upto(4), book.upto(5)), (upto_record(4, 7), 7, 0))
        book.put_upto(4, 8)
        book.put_upto(9, LARGEST)
        self.assertEqual((book.upto(4), book.upto(9), book.peer_devices()), (8, LARGEST, [4, 9]))
        self.assertEqual((book.all_names(), book.peer_names(4)), ([], []))

    def test_a_number_0_that_was_told(self):
        book, store = book_of([(UPTO, 4, None, 0)])
        self.assertEqual((book.upto(4), book.peer_devices()), (0, [4]))
        self.assertEqual(book.needed(), upto_record(4, 0))
        book.put_upto(4, 0)
        self.assertEqual(store.log(), upto_record(4, 0))

    def test_all_names(self):
        book, _ = book_of([(OWN, 0, B1, 1), (PEER, 2, A1, 1), (PEER, 1, B1, 1), (PEER, 9, C1, 1), (INTENT, 0, gone(
            name="z"), 1), (PEER, 9, A1, 2)])
        self.assertEqual(book.all_names(), ["a", "b", "c/d"])

    def test_new_lists_and_unchanged_arguments(self):
        book, store = book_of(ROWS)
        before = told_by(book), store.durable()
        for found in (
            book.names(), book.behind(0), book.all_names(), book.intents(), book.peer_devices(), book.peer_names(2),
            book.peer_entries("a"), book.needed(),
        ):
            self.assertIs(type(found), list)
            found.clear()
        self.assertEqual((told_by(book), store.durable()), before)
        kept = parts_of(A1), parts_of(C1)
        book.put(A1)
        book.intend(C1)
        book.put_peer(4, A1, 3)
        self.assertEqual((parts_of(A1), parts_of(C1)), kept)

    def test_asking_writes_nothing(self):
        _, store = book_of(ROWS)
        book = Book(store)
        store.set_budget(0)
        told_by(book)
        book.put_upto(1, 3)
        book.put_peer(2, B1, 7)
        self.assertEqual(store.log(), log_of(ROWS))

    def test_books_share_nothing(self):
        first, _ = book_of(ROWS)
        second, _ = book_of(ROWS)
        kept = told_by(first)
        second.put(A2)
        second.intend(B2)
        second.put_peer(5, A1, 1)
        second.put_upto(2, 100)
        self.assertEqual(told_by(first), kept)

    def test_rows_of_calls(self):
        # The log is held against a plain one, byte by byte, over calls of all kinds.
        rng = random.Random(3)
        anew = 0
        for _ in range(12):
            rows, store = [], Store({}, [])
            book, log = Book(store), []
            for _ in range(60):
                row = self.take(rng, book, rows)
                if row is not None:
                    rows.append(row)
                    log = log + record(row)
                    needed = log_of(needed_rows(rows))
                    if len(log) > 2 * len(needed) + 400:
                        log = needed
                        anew += 1
                self.assertEqual((store.log(), store.new_log()), (log, []))
                self.assertEqual(told_by(book), expected_by(rows))
            self.assertEqual(told_by(Book(store)), expected_by(rows))
        self.assertGreater(anew, 10)

    def take(self, rng, book, rows):
        """Lets the book take something; returns the row that must have been appended, or None."""
        own, _, peers, uptos = known(rows)
        value = random_entry(rng, rng.choice("ab"))
        device, kind = rng.choice([2, 7]), rng.randrange(5)
        following = max([row[3] for row in rows if row[0] == OWN], default=0) + 1
        if kind == 0:
            self.assertEqual(book.put(value), following)
            return (OWN, 0, value, following)
        if kind == 1:
            self.assertIsNone(book.intend(value))
            return (INTENT, 0, value, following)
        number = rng.randint(1, 40)
        if kind == 2:
            self.assertIsNone(book.put_upto(device, number))
            return (UPTO, device, None, number) if number > uptos.get(device, 0) else None
        taken = number > peers.get((device, value.name), (None, 0))[1]
        self.assertIs(book.put_peer(device, value, number), taken)
        return (PEER, device, value, number) if taken else None


class WritingAnew(unittest.TestCase):
    def test_what_is_needed(self):
        rows = [
            (PEER, 9, C1, 3), (UPTO, 2, None, 8), (INTENT, 0, B2, 7), (OWN, 0, C1, 6), (PEER, 2, C1, 2),
            (OWN, 0, A1, 7), (PEER, 2, A1, 5), (INTENT, 0, gone(name="a/"), 2), (UPTO, 9, None, 3), (UPTO, 3, None, 1)]
        book, store = book_of(rows)
        order = [rows[at] for at in (3, 5, 7, 2, 6, 4, 1, 9, 0, 8)]
        self.assertEqual(book.needed(), log_of(order))
        before, done = told_by(book), store.done()
        self.assertIsNone(book.compact())
        self.assertEqual((store.log(), store.new_log()), (log_of(order), []))
        self.assertEqual(store.done(), done + len(log_of(order)) + 1)
        self.assertEqual(told_by(book), before)
        self.assertEqual(told_by(Book(store)), before)

    def test_nothing_is_needed(self):
        book, store = book_of([])
        self.assertEqual(book.needed(), [])
        book.compact()
        self.assertEqual((store.log(), store.done()), ([], 1))

    def test_the_bound(self):
        # Records of entries with a block of 3 bytes have 36 bytes, with one of 4 bytes 37, with none 32.
        short, long, none = entry(blocks=(1 << 24,)), entry(blocks=(1 << 32,)), entry(blocks=())
        self.assertEqual([len(record_of(value, 1)) for value in (short, long, none)], [36, 37, 32])
        for longer in (0, 1):
            rows = [(OWN, 0, long if at < longer else short, at + 1) for at in range(12)]
            book, store = book_of(rows)
            done = store.done()
            before = store.log()
            self.assertEqual(book.put(none), 13)
            grown = before + record_of(none, 13)
            # 2 * 32 + 400 bytes are not too many, one more is.
            self.assertEqual(len(grown), 464 + longer)
            if longer:
                self.assertEqual((store.log(), store.done()), (record_of(none, 13), done + 32 + 32 + 1))
            else:
                self.assertEqual((store.log(), store.done()), (grown, done + 32))

    def test_the_bound_for_each_kind(self):
        takes = [
            (OWN, 0, entry(blocks=()), 1), (INTENT, 0, entry(blocks=()), 1), (PEER, 3, entry(blocks=()), 50),
            (UPTO, 3, None, 50)]
        for row in takes:
            for more in range(0, 8):
                # Numbers of the peer 3, of which one is needed at most, and a name that makes any length.
                rows = [(UPTO, 3, None, number) for number in range(1, 46)]
                rows += [(PEER, 4, entry(name="n" * (1 + more)), 1), (PEER, 4, entry(name="n" * (1 + more)), 2)]
                rows += [(PEER, 5, entry(name="q"), 1)]
                for skipped in range(10):
                    self.assert_written_anew_as_told(rows[skipped:], row)

    def assert_written_anew_as_told(self, rows, row):
        book, store = book_of(rows)
        kind, device, value, number = row
        if kind == OWN:
            book.put(value)
        elif kind == INTENT:
            book.intend(value)
        elif kind == PEER:
            book.put_peer(device, value, number)
        else:
            book.put_upto(device, number)
        log, needed = log_of(rows + [row]), log_of(needed_rows(rows + [row]))
        self.assertEqual(store.log(), needed if len(log) > 2 * len(needed) + 400 else log)

    def test_what_is_taken_away_is_not_needed(self):
        # An own entry takes an intent away, which makes less of what is needed.
        large = entry(blocks=split([1] * 400))
        book, store = book_of([(INTENT, 0, large, 1)])
        self.assertEqual(len(store.log()), 4 + 1 + 27 + 500)
        self.assertEqual(book.put(gone()), 1)
        self.assertEqual(store.log(), record_of(gone(), 1))
