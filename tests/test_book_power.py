"""The power ends while a book writes (point 06.7)."""

import random
import unittest

from folderkin.book import Book
from folderkin.content import split
from folderkin.errors import PowerCut
from folderkin.store import Store, from_durable
from tests.records import INTENT, OWN, PEER, UPTO, expected_by, log_of, needed_rows, record, told_by
from tests.samples import entry, gone, power_cuts

A1, A2, B1 = entry(), entry(vector=((1, 5),), blocks=split([1, 2, 3, 4, 5])), gone(name="b")
FEW = [(OWN, 0, A1, 1), (UPTO, 2, None, 3), (PEER, 2, B1, 3), (INTENT, 0, B1, 2)]
# So much that the next record lets the log be written anew.
MUCH = FEW + [(UPTO, 2, None, number) for number in range(4, 62)]
TAKES = [
    ((OWN, 0, A2, 2), lambda book: book.put(A2), 2),
    ((OWN, 0, B1, 2), lambda book: book.put(B1), 2),
    ((INTENT, 0, A2, 2), lambda book: book.intend(A2), None),
    ((PEER, 2, A2, 4), lambda book: book.put_peer(2, A2, 4), True),
    ((PEER, 3, B1, 4), lambda book: book.put_peer(3, B1, 4), True),
    ((UPTO, 2, None, 99), lambda book: book.put_upto(2, 99), None),
    ((UPTO, 9, None, 1), lambda book: book.put_upto(9, 1), None)]


def store_of(rows, behind=(), new_log=()):
    store = Store({"f": ([1, 2], 3)}, log_of(rows) + list(behind))
    store.append_temp("t", [4])
    store.attic_put("f", (), [5])
    store.new_log_append(list(new_log))
    return store


class Taking(unittest.TestCase):
    def assert_each_cut(self, rows, row, take, told, anew):
        size = len(record(row))
        after = rows + [row]
        budgets = 0
        for budget, kept, returned in power_cuts(store_of(rows), lambda store: take(Book(store))):
            # The record counts from its last byte on, also while the log is written anew.
            taken = budget >= size
            other = kept.names(), kept.temp("t"), kept.attic()
            self.assertEqual(told_by(Book(kept)), expected_by(after if taken else rows))
            self.assertEqual((kept.names(), kept.temp("t"), kept.attic()), other)
            # What is opened once more tells the same.
            self.assertEqual(told_by(Book(kept)), expected_by(after if taken else rows))
            budgets += 1
            if returned is not None:
                self.assertEqual(returned, (told,))
                self.assertEqual(kept.log(), log_of(needed_rows(after) if anew else after))
        self.assertEqual(budgets, 1 + size + (len(log_of(needed_rows(after))) + 1 if anew else 0))

    def test_appending(self):
        for row, take, told in TAKES:
            self.assert_each_cut(FEW, row, take, told, False)
            self.assert_each_cut([], *self.at_first(row, take, told), False)

    def test_writing_the_log_anew(self):
        for row, take, told in TAKES:
            self.assert_each_cut(MUCH, row, take, told, True)

    def at_first(self, row, take, told):
        # The first own entry has the number 1.
        kind, device, value, number = row
        if kind == OWN:
            return (kind, device, value, 1), take, 1
        return (kind, device, value, 1 if kind == INTENT else number), take, told

    def test_power_cuts_in_a_row(self):
        # Whatever was cut off before, opening and taking go on from what is known.
        rng = random.Random(1)
        for _ in range(25):
            rows, kept = [], store_of([])
            for _ in range(15):
                row, take, _ = TAKES[rng.randrange(len(TAKES))]
                kept.set_budget(rng.choice([3, 20, 60, 150, 400, 1000]))
                before = list(rows)
                try:
                    book = Book(kept)
                    row = (*row[:3], book.next_number()) if row[0] in (OWN, INTENT) else row
                    if take(book) is not False and told_by(book) != expected_by(rows):
                        rows.append(row)
                    self.assertEqual(told_by(book), expected_by(rows))
                except PowerCut:
                    pass
                kept = from_durable(kept.durable())
                found = told_by(Book(from_durable(kept.durable())))
                if found == expected_by(before + [row]) and found != expected_by(before):
                    rows = before + [row]
                self.assertEqual(found, expected_by(rows))


class WritingAnew(unittest.TestCase):
    def test_each_cut(self):
        for rows in ([], FEW, MUCH):
            needed = log_of(needed_rows(rows))
            budgets = 0
            for budget, kept, returned in power_cuts(store_of(rows), lambda store: Book(store).compact()):
                self.assertEqual(kept.log(), log_of(rows) if returned is None else needed)
                self.assertEqual(kept.new_log(), needed[:budget] if returned is None else [])
                self.assertEqual(told_by(Book(kept)), expected_by(rows))
                budgets += 1
            self.assertEqual(budgets, len(needed) + 2)


class Opening(unittest.TestCase):
    def assert_each_cut(self, rows, behind, new_log, writes):
        before = store_of(rows, behind, new_log)
        budgets = 0
        for _, kept, returned in power_cuts(before, lambda store: told_by(Book(store))):
            if returned is not None:
                self.assertEqual(returned, (expected_by(rows),))
            # The power ends once more, while that is opened.
            for _, again, told in power_cuts(kept, lambda store: told_by(Book(store))):
                self.assertEqual(told_by(Book(again)), expected_by(rows))
                if told is not None:
                    self.assertEqual(again.new_log(), [])
            budgets += 1
        self.assertEqual(budgets, writes + 1)

    def test_each_cut(self):
        few = FEW[:2]
        needed = len(log_of(few))
        self.assert_each_cut(few, [], [], 0)
        self.assert_each_cut(few, [], [9, 9, 9], 1)
        self.assert_each_cut(few, log_of([FEW[2]])[:-1], [], needed + 1)
        self.assert_each_cut(few, [0, 6, 2], log_of(few)[:-3], needed + 2)
        self.assert_each_cut(few, [7], log_of(FEW), needed + 2)
        self.assert_each_cut([], [7], [], 1)
        self.assert_each_cut([], [7], [1], 2)
