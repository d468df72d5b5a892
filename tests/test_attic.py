"""The attic (chapter 13)."""

import random
import unittest
from collections import Counter

from folderkin.attic import Rule, keep, kept, let_go, size_of, tidy
from folderkin.store import Store, from_durable
from tests.samples import all_of, power_cuts

V, W = ((1, 1),), ((1, 2), (3, 1))


def made(*rows):
    """A store with these rows in its attic, and something else, and no writes yet."""
    store = Store({"a": ([1, 2], 3)}, [4])
    store.append_temp("t", [5])
    for row in rows:
        store.attic_put(*row)
    return from_durable(store.durable())


def plain_tidy(rows, rule):
    """Point 13.2: what stays and what is let go, in order."""
    rows, gone = list(rows), []
    for name in sorted({row[0] for row in rows}):
        while len([row for row in rows if row[0] == name]) > rule.each:
            oldest = [row[0] for row in rows].index(name)
            gone.append(rows.pop(oldest))
    while sum(len(row[2]) for row in rows) > rule.total:
        gone.append(rows.pop(0))
    return rows, gone


def random_rows(rng, most=8):
    return [
        (rng.choice(["a", "b", "B"]), rng.choice([(), V, W]), [7] * rng.choice([0, 0, 1, 2, 5]))
        for _ in range(rng.randint(0, most))]


class Rules(unittest.TestCase):
    def test_attributes(self):
        rule = Rule(2, 5)
        self.assertEqual((rule.each, rule.total), (2, 5))

    def test_equal(self):
        self.assertTrue(Rule(2, 5) == Rule(2, 5))
        self.assertFalse(Rule(2, 5) != Rule(2, 5))
        for other in (Rule(5, 2), Rule(2, 6), Rule(1, 5), None, (2, 5), [2, 5], "2", 2):
            self.assertFalse(Rule(2, 5) == other)
            self.assertTrue(Rule(2, 5) != other)


class Keeping(unittest.TestCase):
    def assert_keep(self, rows, rule, row, left, gone, writes):
        store = made(*rows)
        others = all_of(store)[:2] + all_of(store)[3:]
        content = list(row[2])
        found = keep(store, rule, row[0], row[1], content)
        self.assertIs(type(found), list)
        self.assertEqual((found, store.attic(), store.done()), (gone, left, writes))
        self.assertEqual(all_of(store)[:2] + all_of(store)[3:], others)
        self.assertEqual((content, rule), (row[2], Rule(rule.each, rule.total)))

    def test_putting(self):
        rule = Rule(3, 100)
        self.assert_keep([], rule, ("a", V, [1]), [("a", V, [1])], [], 1)
        rows = [("a", V, [1]), ("b", W, [])]
        self.assert_keep(rows, rule, ("a", W, [1]), rows + [("a", W, [1])], [], 1)
        self.assert_keep(rows, rule, ("b", V, []), rows + [("b", V, [])], [], 1)

    def test_what_lies_there_already(self):
        rule = Rule(3, 100)
        rows = [("a", V, [1]), ("b", W, []), ("b", V, [1])]
        for row in rows:
            self.assert_keep(rows, rule, row, rows, [], 0)
        # Another content, vector or name is not the same.
        for row in (("a", V, [2]), ("a", V, []), ("a", W, [1]), ("a", (), [1]), ("c", V, [1]), ("b", W, [0])):
            self.assert_keep(rows, rule, row, rows + [row], [], 1)

    def test_it_is_tidied_even_if_it_lies_there_already(self):
        rows = [("a", V, [1]), ("a", W, [2]), ("a", W, [3])]
        self.assert_keep(rows, Rule(1, 9), rows[2], rows[2:], rows[:2], 2)
        # Then what was to be kept may be let go as the oldest one.
        self.assert_keep(rows, Rule(1, 9), rows[0], rows[2:], rows[:2], 2)

    def test_so_many_of_each_name(self):
        rows = [("a", V, [1]), ("b", V, [2]), ("a", W, [3])]
        new = ("a", (), [4])
        self.assert_keep(rows, Rule(3, 99), new, rows + [new], [], 1)
        self.assert_keep(rows, Rule(2, 99), new, rows[1:] + [new], [rows[0]], 2)
        self.assert_keep(rows, Rule(1, 99), new, [rows[1], new], [rows[0], rows[2]], 3)
        self.assert_keep(rows, Rule(0, 99), new, [], [rows[0], rows[2], new, rows[1]], 5)

    def test_so_many_bytes(self):
        rows = [("a", V, [1] * 4), ("b", V, []), ("c", W, [3] * 3)]
        new = ("d", (), [4] * 2)
        self.assert_keep(rows, Rule(9, 9), new, rows + [new], [], 1)
        self.assert_keep(rows, Rule(9, 8), new, rows[1:] + [new], rows[:1], 2)
        self.assert_keep(rows, Rule(9, 5), new, rows[1:] + [new], rows[:1], 2)
        # What has no bytes is let go when it is the oldest one.
        self.assert_keep(rows, Rule(9, 4), new, [new], rows, 4)
        self.assert_keep(rows, Rule(9, 1), new, [], rows + [new], 5)
        self.assert_keep(rows, Rule(9, 0), new, [], rows + [new], 5)

    def test_a_content_of_more_bytes_than_there_may_be(self):
        self.assert_keep([("a", V, [])], Rule(9, 3), ("b", V, [1] * 4), [], [("a", V, []), ("b", V, [1] * 4)], 3)

    def test_contents_without_bytes(self):
        rows = [("a", V, []), ("b", V, []), ("a", W, [])]
        new = ("a", (), [])
        self.assert_keep(rows, Rule(3, 0), new, rows + [new], [], 1)
        self.assert_keep(rows, Rule(2, 0), new, rows[1:] + [new], rows[:1], 2)
        self.assert_keep(rows, Rule(9, 0), ("c", V, [1]), [], rows + [("c", V, [1])], 5)

    def test_first_the_names_and_then_the_bytes(self):
        rows = [("b", V, [1] * 5), ("a", V, [2] * 5), ("a", W, [3] * 5), ("B", V, [4]), ("B", W, [5])]
        # The names ascend; what is let go for its name counts no more.
        self.assert_keep(rows, Rule(1, 16), ("c", V, [6] * 5), [rows[0], rows[2], rows[4], ("c", V, [6] * 5)], [
            rows[3], rows[1]], 3)
        self.assert_keep(rows, Rule(1, 15), ("c", V, [6] * 5), [rows[2], rows[4], ("c", V, [6] * 5)], [
            rows[3], rows[1], rows[0]], 4)

    def test_the_content_is_copied(self):
        store, content = made(), [1, 2]
        keep(store, Rule(3, 9), "a", V, content)
        content.append(3)
        self.assertEqual(store.attic(), [("a", V, [1, 2])])
        found = keep(store, Rule(0, 9), "b", V, content)
        found[0][2].append(9)
        self.assertEqual(store.attic(), [])

    def test_rows_of_calls(self):
        rng = random.Random(1)
        for _ in range(150):
            rule = Rule(rng.randint(0, 3), rng.randint(0, 12))
            rows = random_rows(rng, 4)
            store = made(*rows)
            for row in random_rows(rng):
                rows = rows if row in rows else rows + [row]
                rows, gone = plain_tidy(rows, rule)
                self.assertEqual(keep(store, rule, *row), gone)
                self.assertEqual(store.attic(), rows)


class Tidying(unittest.TestCase):
    def test_nothing_to_let_go(self):
        for rows in ([], [("a", V, [1])], [("a", V, []), ("a", V, []), ("b", W, [1, 2])]):
            store = made(*rows)
            self.assertEqual(tidy(store, Rule(2, 2)), [])
            self.assertEqual((store.attic(), store.done()), (rows, 0))

    def test_equal_rows_count_each(self):
        store = made(("a", V, [1]), ("a", V, [1]), ("a", V, [1]))
        self.assertEqual(tidy(store, Rule(1, 9)), [("a", V, [1])] * 2)
        self.assertEqual(store.attic(), [("a", V, [1])])

    def test_any_rows(self):
        rng = random.Random(2)
        for _ in range(400):
            rule, rows = Rule(rng.randint(0, 3), rng.randint(0, 12)), random_rows(rng)
            store = made(*rows)
            left, gone = plain_tidy(rows, rule)
            self.assertEqual(tidy(store, rule), gone)
            self.assertEqual((store.attic(), store.done()), (left, len(gone)))
            self.assertEqual(tidy(store, rule), [])
            self.assertTrue(all(many <= rule.each for many in Counter(row[0] for row in left).values()))
            self.assertLessEqual(size_of(store), rule.total)


class LettingGo(unittest.TestCase):
    ROWS = [("a", V, [1]), ("b", V, [2]), ("a", W, [3]), ("a", V, []), ("b", V, [2]), ("a", V, [1])]

    def test_a_name_with_a_vector(self):
        for name, vector, indexes in (
            ("a", V, (0, 3, 5)), ("b", V, (1, 4)), ("a", W, (2,)), ("b", W, ()), ("c", V, ()), ("a", (), ()),
        ):
            store = made(*self.ROWS)
            self.assertEqual(let_go(store, name, vector), len(indexes))
            self.assertEqual(store.attic(), [row for at, row in enumerate(self.ROWS) if at not in indexes])
            self.assertEqual(store.done(), len(indexes))
            self.assertEqual(let_go(store, name, vector), 0)

    def test_the_oldest_first(self):
        # With each further write, one more of the oldest is gone.
        for budget, kept_store, returned in power_cuts(made(*self.ROWS), lambda store: let_go(store, "a", V)):
            dropped = (0, 3, 5)[:budget]
            self.assertEqual(kept_store.attic(), [row for at, row in enumerate(self.ROWS) if at not in dropped])
            self.assertEqual(returned, (3,) if budget == 3 else None)


class Asking(unittest.TestCase):
    def test_kept(self):
        store = made(*LettingGo.ROWS)
        self.assertEqual(kept(store, "a"), [(V, [1]), (W, [3]), (V, []), (V, [1])])
        self.assertEqual(kept(store, "b"), [(V, [2]), (V, [2])])
        self.assertEqual(kept(store, "c"), [])
        self.assertEqual({type(pair) for pair in kept(store, "a")}, {tuple})
        kept(store, "a")[0][1].append(9)
        kept(store, "a").clear()
        self.assertEqual(kept(store, "a")[0], (V, [1]))
        self.assertEqual(store.done(), 0)

    def test_size_of(self):
        self.assertEqual(size_of(made()), 0)
        self.assertEqual(size_of(made(("a", V, []))), 0)
        self.assertEqual(size_of(made(*LettingGo.ROWS)), 5)
        self.assertEqual(size_of(made(("a", V, [1] * 1020), ("b", V, [1] * 1020))), 2040)


class PowerCuts(unittest.TestCase):
    """Point 13.3."""

    def assert_each_cut(self, rows, rule, row=None):
        store = made(*rows)
        put = rows if row is None or row in rows else rows + [row]
        left, gone = plain_tidy(put, rule)
        work = (lambda store: tidy(store, rule)) if row is None else (lambda store: keep(store, rule, *row))
        budgets = 0
        for budget, kept_store, returned in power_cuts(store, work):
            if put != rows and budget == 0:
                self.assertEqual(kept_store.attic(), rows)
                again = rows
            else:
                # Of what was there, so much was let go as there were writes behind the putting.
                dropped = Counter(map(str, gone[:budget - (1 if put != rows else 0)]))
                found = Counter(map(str, kept_store.attic()))
                self.assertEqual(found + dropped, Counter(map(str, put)))
                again = put
            self.assertEqual(returned, (gone,) if budget == len(gone) + (put != rows) else None)
            tidy(kept_store, rule)
            self.assertEqual(kept_store.attic(), plain_tidy(again, rule)[0])
            if again == put:
                self.assertEqual(kept_store.attic(), left)
            budgets += 1
        self.assertEqual(budgets, len(gone) + (put != rows) + 1)

    def test_tidying(self):
        rng = random.Random(3)
        for _ in range(100):
            self.assert_each_cut(random_rows(rng), Rule(rng.randint(0, 2), rng.randint(0, 8)))

    def test_keeping(self):
        rng = random.Random(4)
        for _ in range(100):
            self.assert_each_cut(random_rows(rng), Rule(rng.randint(0, 2), rng.randint(0, 8)), (random_rows(rng) + [
                ("c", V, [1])])[0])
