"""Choosing (chapter 10)."""

import itertools
import random
import unittest

from folderkin.choosing import known, needed, steps_for, wanted
from folderkin.content import split
from folderkin.entries import alike, copy_name, edited, key_of, winner
from folderkin.vectors import compare
from tests.records import INTENT, OWN, PEER, UPTO, book_of, told_by
from tests.samples import entry, gone, parts_of, random_entry, shown

ONE, TWO = split([1]), split([2])


def book(own=None, *peers, others=()):
    """A book with an own entry of a name and entries of the peers 2, 3, .. for it (None for no entry)."""
    rows = [] if own is None else [(OWN, 0, own, 1)]
    rows += [(PEER, 2 + at, value, 1) for at, value in enumerate(peers) if value is not None]
    return book_of(rows + list(others))[0]


class Known(unittest.TestCase):
    def test_none(self):
        found = known(book(entry(name="b")), "a")
        self.assertEqual(found, [])
        self.assertIsNone(wanted(book(entry(name="b")), "a"))

    def test_the_own_entry_and_then_those_of_the_peers(self):
        values = [entry(height=height) for height in range(1, 6)]
        rows = [
            (PEER, 9, values[0], 3), (PEER, 2, values[1], 4), (OWN, 0, values[2], 8), (PEER, 1, values[3], 1),
            (PEER, 5, entry(name="b"), 1), (UPTO, 4, None, 5), (INTENT, 0, values[4], 9)]
        found = known(book_of(rows)[0], "a")
        self.assertEqual(shown(found), shown([values[2], values[3], values[1], values[0]]))
        found = known(book_of(rows[:2])[0], "a")
        self.assertEqual(shown(found), shown([values[1], values[0]]))

    def test_new_lists(self):
        found = book(entry(), entry(height=2))
        known(found, "a").clear()
        self.assertEqual(len(known(found, "a")), 2)
        needed(found).clear()
        self.assertEqual(needed(found), ["a"])
        steps_for(found, "a").clear()
        self.assertEqual(len(steps_for(found, "a")), 1)


class Wanted(unittest.TestCase):
    def test_one(self):
        for value in (entry(), gone()):
            self.assertEqual(parts_of(wanted(book(value), "a")), parts_of(value))
            self.assertEqual(parts_of(wanted(book(None, None, value), "a")), parts_of(value))

    def test_several(self):
        least, middle, most = entry(height=2), entry(height=3, blocks=ONE), entry(height=4, blocks=TWO)
        for order in itertools.permutations([least, middle, most]):
            self.assertEqual(parts_of(wanted(book(*order), "a")), parts_of(most))
            self.assertEqual(parts_of(wanted(book(None, *order), "a")), parts_of(most))

    def test_alike_ones_are_joined(self):
        first = entry(height=4, vector=((1, 4),), blocks=ONE)
        second = entry(height=2, vector=((2, 7), (3, 1)), blocks=ONE)
        third = entry(height=3, vector=((5, 5),), blocks=TWO)
        for order in itertools.permutations([first, second, third]):
            found = wanted(book(*order), "a")
            expected = entry(height=4, vector=((1, 4), (2, 7), (3, 1)), blocks=ONE)
            self.assertEqual(parts_of(found), parts_of(expected))

    def test_deleted_ones_are_joined(self):
        found = wanted(book(gone(height=4), gone(vector=((2, 7),))), "a")
        self.assertEqual(parts_of(found), parts_of(gone(height=4, vector=((1, 4), (2, 7)))))

    def test_as_the_winner_of_the_known_entries(self):
        rng = random.Random(1)
        for _ in range(150):
            values = [None] + [random_entry(rng, "a") for _ in range(4)]
            found = book(*[rng.choice(values) for _ in range(4)])
            entries = known(found, "a")
            if entries:
                self.assertEqual(parts_of(wanted(found, "a")), parts_of(winner(entries)))
                own = found.own("a")
                # Point 10.3.
                if own is not None:
                    self.assertGreaterEqual(key_of(wanted(found, "a")), key_of(own[0]))


class Needed(unittest.TestCase):
    def test_over_all_names(self):
        rows = [
            (OWN, 0, entry(name="own"), 1), (OWN, 0, entry(name="same"), 2), (PEER, 2, entry(name="same"), 1),
            (OWN, 0, entry(name="less"), 3), (PEER, 3, entry(name="less", height=2), 2),
            (OWN, 0, entry(name="more", height=3), 4), (PEER, 3, entry(name="more", height=2, blocks=ONE), 3),
            (OWN, 0, entry(name="join", height=3), 5), (PEER, 3, entry(name="join", vector=((3, 3),)), 4),
            (PEER, 2, entry(name="b"), 5), (PEER, 3, gone(name="B"), 5), (INTENT, 0, entry(name="put"), 6),
            (PEER, 2, entry(name="more", height=1, blocks=TWO), 9)]
        self.assertEqual(needed(book_of(rows)[0]), ["B", "b", "join", "less"])

    def test_none(self):
        self.assertEqual(needed(book()), [])
        self.assertEqual(needed(book(entry(), entry())), [])

    def test_all_of_the_entry_counts(self):
        # The own entry must be the winner in all parts.
        own = entry()
        self.assertEqual(needed(book(own, entry(vector=((1, 4), (2, 1))))), ["a"])
        self.assertEqual(needed(book(own, entry(vector=((1, 3),)))), [])
        self.assertEqual(needed(book(own, entry(time=11))), ["a"])
        self.assertEqual(needed(book(own, entry(height=2))), ["a"])

    def test_as_told(self):
        rng = random.Random(2)
        for _ in range(100):
            rows = []
            for name in "ab~":
                values = [random_entry(rng, name) for _ in range(2)]
                for device in range(4):
                    if rng.random() < 0.5:
                        rows.append((PEER if device else OWN, device, rng.choice(values), 5))
            found = book_of(rows)[0]
            expected = []
            for name in "ab~":
                own, entries = found.own(name), known(found, name)
                if entries and (own is None or parts_of(own[0]) != parts_of(winner(entries))):
                    expected.append(name)
            self.assertEqual(needed(found), expected)


class Steps(unittest.TestCase):
    def assert_steps(self, found, *expected, name="a"):
        self.assertEqual(needed(found), [name])
        before = told_by(found)
        steps = steps_for(found, name)
        self.assertEqual(shown(steps), shown(list(expected)))
        self.assertEqual({type(step) for step in steps}, {tuple})
        self.assertEqual(told_by(found), before)

    def test_recording(self):
        # The own entry is alike to the winner, or there is none and the winner is deleted.
        own = entry(blocks=ONE)
        best = entry(blocks=ONE, height=2)
        self.assert_steps(book(own, best), ("record", best))
        best = entry(blocks=ONE, vector=((2, 7),), time=50)
        joined = entry(blocks=ONE, vector=((1, 4), (2, 7)), time=50)
        self.assert_steps(book(own, best), ("record", joined))
        self.assert_steps(book(gone(), gone(height=2)), ("record", gone(height=2)))
        self.assert_steps(book(None, gone()), ("record", gone()))
        empty = entry(blocks=(), height=2)
        self.assert_steps(book(entry(blocks=()), empty), ("record", empty))

    def test_removing(self):
        best = gone(vector=((1, 4), (2, 7)), height=2)
        self.assert_steps(book(entry(), best), ("remove", best))
        # A file without bytes is not a deleted one.
        self.assert_steps(book(entry(blocks=()), best), ("remove", best))

    def test_placing(self):
        best = entry(vector=((1, 4), (2, 7)), height=2, blocks=ONE)
        self.assert_steps(book(entry(blocks=TWO), best), ("place", best))
        self.assert_steps(book(None, best), ("place", best))
        self.assert_steps(book(None, entry(blocks=())), ("place", entry(blocks=())))

    def test_placing_over_a_deleted_entry(self):
        for vector in (((1, 4), (2, 7)), ((1, 4),), ((2, 7),), ((1, 3),)):
            best = entry(vector=vector, height=2, blocks=())
            self.assert_steps(book(gone(), best), ("place", best))

    def test_a_copy_by_the_vectors(self):
        own = entry(vector=((1, 4), (3, 3)), blocks=TWO)
        for vector, copied in (
            (((1, 4), (3, 3)), False), (((1, 4), (3, 4)), False), (((1, 4), (2, 1), (3, 3)), False),
            (((1, 5), (3, 3)), False), (((1, 4),), True), (((1, 3), (3, 3)), True), (((2, 7),), True),
            (((1, 3), (3, 4)), True), (((1, 9), (2, 9)), True),
        ):
            for best, word in ((entry(vector=vector, height=2, blocks=ONE), "place"), (
                    gone(vector=vector, height=2), "remove")):
                expected = [("copy", own)] if copied else []
                self.assert_steps(book(own, best), *expected, (word, best))
                self.assertEqual(compare(own.vector, vector) in ("greater", "apart"), copied)

    def test_the_vector_of_the_winner_is_the_joined_one(self):
        # With the vectors of entries that are alike to it, it is not apart any more.
        own = entry(vector=((1, 4),), blocks=TWO)
        first = entry(vector=((2, 7),), height=3, blocks=ONE)
        second = entry(vector=((1, 4), (3, 1)), height=2, blocks=ONE)
        self.assert_steps(book(own, first), ("copy", own), ("place", first))
        best = entry(vector=((1, 4), (2, 7), (3, 1)), height=3, blocks=ONE)
        self.assert_steps(book(own, first, second), ("place", best))

    def test_no_copy_of_what_is_alike(self):
        own = entry(vector=((1, 4),), blocks=ONE)
        best = entry(vector=((2, 7),), height=3, blocks=ONE)
        joined = entry(vector=((1, 4), (2, 7)), height=3, blocks=ONE)
        self.assert_steps(book(own, best), ("record", joined))

    def test_no_copy_of_a_deleted_entry(self):
        best = entry(vector=((2, 7),), height=3, blocks=ONE)
        self.assert_steps(book(gone(), best), ("place", best))

    def test_no_copy_of_a_name_that_is_its_copy_name(self):
        own = entry(name="a~1-4", maker=(1, 4), vector=((1, 4),), blocks=ONE)
        best = entry(name="a~1-4", maker=(2, 7), vector=((2, 7),), height=2, blocks=TWO)
        self.assertEqual(copy_name(own), own.name)
        self.assert_steps(book(own, best), ("place", best), name="a~1-4")
        # The maker of the own entry counts, not that of the winner.
        own = entry(name="a~2-7", maker=(1, 4), vector=((1, 4),), blocks=ONE)
        best = entry(name="a~2-7", maker=(2, 7), vector=((2, 7),), height=2, blocks=TWO)
        self.assert_steps(book(own, best), ("copy", own), ("place", best), name="a~2-7")

    def test_a_known_entry_for_the_copy_name(self):
        own = entry(vector=((1, 4),), maker=(6, 5), blocks=ONE)
        best = entry(vector=((2, 7),), height=2, blocks=TWO)
        for other in (entry(name="a~6-5", blocks=TWO), gone(name="a~6-5"), entry(name="a~6-5", blocks=ONE)):
            for rows in ([(OWN, 0, other, 9)], [(PEER, 9, other, 9)], [(OWN, 0, other, 9), (PEER, 9, other, 9)]):
                found = book(own, best, others=rows)
                self.assertEqual(shown(steps_for(found, "a")), shown([("place", best)]))
        # No others matter: an intent, another name, the copy name of the winner.
        for rows in (
            [(INTENT, 0, entry(name="a~6-5"), 9)], [(OWN, 0, entry(name="a~6-6"), 9)],
            [(PEER, 9, entry(name="a~1-4"), 9)], [(PEER, 9, entry(name="b~6-5"), 9)],
        ):
            found = book(own, best, others=rows)
            self.assertEqual(shown(steps_for(found, "a")), shown([("copy", own), ("place", best)]))

    def test_the_copy_name_of_a_copy(self):
        # The root of the name counts.
        own = entry(name="a~9-9", maker=(1, 4), vector=((1, 4),), blocks=ONE)
        best = gone(name="a~9-9", vector=((2, 7),), height=2)
        self.assert_steps(book(own, best), ("copy", own), ("remove", best), name="a~9-9")
        found = book(own, best, others=[(PEER, 9, entry(name="a~1-4"), 9)])
        self.assertEqual(shown(steps_for(found, "a~9-9")), shown([("remove", best)]))

    def test_edits_of_two_devices(self):
        base = edited(None, "a", 1, 1, False, 10, ONE)
        mine = edited(base, "a", 1, 2, False, 20, TWO)
        theirs = edited(base, "a", 2, 1, False, 30, split([3]))
        self.assert_steps(book(mine, theirs), ("copy", mine), ("place", theirs))
        self.assert_steps(book(base, theirs), ("place", theirs))
        self.assertEqual(needed(book(theirs, base)), [])

    def test_as_told(self):
        # Point 10.2, sentence by sentence.
        rng = random.Random(3)
        seen = set()
        for _ in range(600):
            values = []
            for _ in range(3):
                devices = sorted(rng.sample([1, 2, 3], rng.randint(1, 2)))
                vector = tuple((device, rng.randint(1, 3)) for device in devices)
                parts = {"vector": vector, "height": rng.randint(1, 3), "maker": (rng.randint(1, 2), 4)}
                values.append(rng.choice([gone(**parts), entry(**parts), entry(blocks=ONE, **parts)]))
            others = [(OWN, 0, entry(name="a~1-4"), 5)] if rng.random() < 0.3 else []
            found = book(rng.choice([None, values[0]]), values[1], rng.choice([None, values[2]]), others=others)
            if "a" not in needed(found):
                continue
            own, best = found.own("a"), wanted(found, "a")
            own = None if own is None else own[0]
            expected = []
            if (own is not None and not own.deleted and not alike(own, best)
                    and compare(own.vector, best.vector) not in ("less", "equal")
                    and copy_name(own) != "a" and not known(found, copy_name(own))):
                expected.append(("copy", own))
            if (own is not None and alike(own, best)) or (own is None and best.deleted):
                expected.append(("record", best))
            else:
                expected.append(("remove" if best.deleted else "place", best))
            self.assertEqual(shown(steps_for(found, "a")), shown(expected))
            seen.add((own is None, tuple(step[0] for step in expected)))
        self.assertEqual(len(seen), 7)
