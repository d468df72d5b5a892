"""Senders (points 21.1 to 21.3)."""

import random
import unittest
from copy import deepcopy

from folderkin.attic import Rule
from folderkin.content import split
from folderkin.devices import Device
from folderkin.entries import Entry, edited
from folderkin.errors import PowerCut
from folderkin.oneway import OneWayWorld, Sender
from folderkin.patterns import parse_patterns
from folderkin.store import Store, from_durable
from folderkin.vectors import compare
from tests.drawing import files_of
from tests.records import told_by
from tests.rigs import A, B, BA, BB, C, D
from tests.rigs import device_of, gives, has, own, peer, state, unchanged, upto, wants
from tests.samples import all_of, gone, random_content, shown

NOW = 60


def sender_of(files=(), rows=(), **parts):
    return device_of(files, rows, made=Sender, **parts)


class Senders(unittest.TestCase):
    def test_a_device_with_its_attributes(self):
        store, patterns = Store({"a": (A, 1)}, []), parse_patterns("*.o")
        sender = Sender(4, store, Rule(1, 2), patterns)
        patterns.clear()
        self.assertIsInstance(sender, Device)
        self.assertIs(sender.store, store)
        self.assertEqual((sender.number, sender.rule, sender.patterns), (4, Rule(1, 2), parse_patterns("*.o")))
        self.assertEqual((sender.book.names(), sender.leaves_out("b.o~1-1"), sender.leaves_out("b")), ([], True, False))

    def test_it_scans_as_a_device(self):
        rows = [own(has(A, name="c"), 1), own(has(B, name="x.o"), 2)]
        first, second = device_of({"a": A, "b": B}, rows, patterns="*.o"), sender_of({"a": A, "b": B}, rows,
            patterns="*.o")
        self.assertEqual(shown(first.scan(NOW)), shown(second.scan(NOW)))
        self.assertEqual(state(first), state(second))

    def test_it_hears_and_answers_as_a_device(self):
        letters = [
            ("hello", 2), ("ask", 0), ("ask", 1), ("entries", 0, 9, ((wants(B), 8), (wants(C, name="c"), 9))),
            ("request", "a", 0, BA), ("request", "a", 0, BB), gives(BB), ("refused", BB), ("hello", 2)]
        first, second = device_of({"a": A}, [own(has(A)), upto(2, 3)]), sender_of({"a": A}, [own(has(A)), upto(2, 3)])
        for letter in letters:
            self.assertEqual(shown(first.hear(2, letter)), shown(unchanged(self, second.hear, 2, letter)))
            self.assertEqual((all_of(first.store), told_by(first.book)), (all_of(second.store), told_by(second.book)))
            self.assertEqual(first.ask(2), second.ask(2))
        self.assertEqual(second.ask(2), ("ask", 9))

    def test_it_needs_nothing_and_its_work_does_nothing(self):
        # All kinds of steps, and a file that was changed.
        rows = [own(has(A)), peer(2, wants(B)), peer(2, wants([], name="b")), peer(2, gone(name="c")),
                own(has(D, name="d"), 2), peer(3, gone(name="d", height=9)), own(has(D, name="e"), 3),
                peer(3, wants(D, name="e"))]
        sender = sender_of({"a": A, "d": D, "e": C, "z": B}, rows)
        before = state(sender)
        self.assertEqual((sender.needed(), sender.work([2, 3], NOW), sender.work([], NOW)), ([], [], []))
        self.assertEqual((state(sender), sender.store.done()), (before, 0))
        # So nothing is brought together, either.
        sender.hear(2, gives(BB))
        self.assertEqual((state(sender), sender.store.done()), (before, 0))
        sender.needed().append("x")
        self.assertEqual(sender.needed(), [])


class Differing(unittest.TestCase):
    def assert_differing(self, files, rows, expected, **parts):
        sender = sender_of(files, rows, **parts)
        self.assertEqual(unchanged(self, sender.differing), expected)
        before = state(sender)
        sender.differing().append("x")
        self.assertEqual((sender.differing(), state(sender)), (expected, before))

    def test_nothing_is_known(self):
        self.assert_differing({}, [], [])
        self.assert_differing({"a": A}, [], [])

    def test_the_winner_is_alike(self):
        self.assert_differing({"a": A}, [own(has(A))], [])
        self.assert_differing({"a": A}, [own(has(A)), peer(2, wants(A))], [])
        self.assert_differing({"a": A}, [own(has(A, height=3)), peer(2, has(B))], [])
        self.assert_differing({}, [own(gone()), peer(2, gone(height=2))], [])

    def test_the_winner_is_not_alike(self):
        self.assert_differing({"a": A}, [own(has(A)), peer(2, wants(B))], ["a"])
        self.assert_differing({"a": A}, [own(has(A)), peer(2, gone(height=2))], ["a"])
        self.assert_differing({}, [own(gone()), peer(2, wants([]))], ["a"])

    def test_without_an_own_entry(self):
        self.assert_differing({}, [peer(2, wants(B))], ["a"])
        self.assert_differing({}, [peer(2, wants([]))], ["a"])
        self.assert_differing({}, [peer(2, gone())], [])
        self.assert_differing({}, [peer(2, has(B)), peer(3, gone(height=2))], [])

    def test_the_file_does_not_matter(self):
        self.assert_differing({"a": B}, [own(has(A)), peer(2, wants(B))], ["a"])
        self.assert_differing({"a": B}, [own(has(A))], [])

    def test_names_ascend(self):
        rows = [peer(2, wants(A, name=name), at + 1) for at, name in enumerate(["b", "B", "a~1-1", "a", "x.o",
            "x.o~1-1"])]
        self.assert_differing({}, rows, ["B", "a", "a~1-1", "b"], patterns="*.o")


class Overriding(unittest.TestCase):
    ROWS = [
        own(has(A, vector=((1, 1),)), 1), own(has(B, name="b", vector=((1, 2),)), 2), own(gone(name="c"), 3),
        peer(2, wants(C, height=7), 1), peer(3, wants(A, height=6, vector=((1, 1), (3, 5))), 2),
        peer(2, wants(B, name="b"), 3), peer(2, wants(D, name="c"), 4), peer(2, wants(D, name="d"), 5),
        peer(3, gone(name="e"), 6)]
    FILES = {"a": A, "b": B}

    def test_entries(self):
        sender = sender_of(self.FILES, self.ROWS)
        before = all_of(sender.store)
        self.assertEqual(sender.differing(), ["a", "c", "d"])
        found = sender.override(NOW)
        expected = [
            Entry("a", ((1, 4), (2, 5), (3, 5)), 8, (1, 4), False, NOW, (BA,)),
            Entry("c", ((1, 5), (2, 5)), 6, (1, 5), True, NOW, ()),
            Entry("d", ((1, 6), (2, 5)), 6, (1, 6), True, NOW, ())]
        self.assertEqual(shown(found), shown(expected))
        self.assertEqual([shown(sender.book.own(value.name)) for value in expected], [
            shown((value, number)) for value, number in zip(expected, (4, 5, 6))])
        self.assertEqual(shown(sender.changes.rows()), shown([
            (1, "override", has(A), expected[0]), (1, "override", gone(name="c"), expected[1]),
            (1, "override", None, expected[2])]))
        # Then it differs in none; files and attic are as they were.
        self.assertEqual((sender.differing(), sender.override(NOW)), ([], []))
        self.assertEqual(all_of(sender.store)[:3], before[:3])
        self.assertEqual(sender.book.next_number(), 7)

    def test_it_stands_above_all_known_entries(self):
        sender = sender_of(self.FILES, self.ROWS)
        for value in sender.override(NOW):
            for other in sender.book.peer_entries(value.name):
                self.assertEqual(compare(other.vector, value.vector), "less")
                self.assertLess(other.height, value.height)

    def test_it_scans_first(self):
        sender = sender_of({"a": (C, 4), "x": D}, [own(has(A)), peer(2, wants(B, height=5)), own(has(B, name="b"), 2)])
        found = sender.override(NOW)
        edit = edited(has(A), "a", 1, 3, False, 4, split(C))
        # The new entries of the scan are not told.
        expected = Entry("a", ((1, 6), (2, 5)), 6, (1, 6), False, NOW, split(C))
        self.assertEqual(shown(found), shown([expected]))
        self.assertEqual([row[1] for row in sender.changes.rows()], ["edit"] * 3 + ["override"])
        self.assertEqual(shown(sender.changes.rows()[3]), shown((1, "override", edit, expected)))
        self.assertTrue(sender.book.own("b")[0].deleted)
        self.assertEqual(sender.book.own("b")[0].time, NOW)

    def test_what_the_user_removed(self):
        sender = sender_of({}, [own(has(A)), peer(2, wants(B))])
        (found,) = sender.override(NOW)
        self.assertEqual(shown(found), shown(Entry("a", ((1, 3), (2, 5)), 6, (1, 3), True, NOW, ())))

    def test_an_empty_content(self):
        sender = sender_of({"a": []}, [own(has([])), peer(2, wants(B))])
        (found,) = sender.override(NOW)
        self.assertEqual((found.deleted, found.blocks), (False, ()))

    def test_left_out_names(self):
        rows = [peer(2, wants(A, name="a.o~1-1"), 1), peer(2, wants(A, name="b.o"), 2), peer(2, wants(A, name="c"), 3)]
        sender = sender_of({"b.o": A}, rows, patterns="*.o")
        self.assertEqual([value.name for value in sender.override(NOW)], ["c"])
        self.assertEqual(sender.book.names(), ["c"])

    def test_new_lists(self):
        sender = sender_of(self.FILES, self.ROWS)
        sender.override(NOW).clear()
        self.assertEqual(len(sender.changes.rows()), 3)

    def test_a_power_cut_at_each_write(self):
        # The file of b was changed, too.
        files = {"a": A, "b": C}
        whole = sender_of(files, self.ROWS * 3)
        whole.override(NOW)
        seen = {}
        for budget in range(whole.store.done()):
            sender = sender_of(files, self.ROWS * 3)
            sender.store.set_budget(budget)
            self.assertRaises(PowerCut, sender.override, NOW)
            again = Sender(1, from_durable(sender.store.durable()), sender.rule, [])
            self.assertGreaterEqual(again.book.next_number() - 4, len(sender.changes.rows()))
            seen[again.book.next_number()] = True
            again.override(NOW)
            self.assertEqual(again.differing(), [])
            self.assertEqual(files_of(again), {"a": A, "b": C})
            for name in "abcde":
                first, second = again.book.own(name), whole.book.own(name)
                self.assertEqual(shown(first and first[0]), shown(second and second[0]))
        # With each number of entries that were taken, b's edit among them.
        self.assertEqual(sorted(seen), [4, 5, 6, 7, 8])
        self.assertEqual(whole.book.next_number(), 9)


class InWorlds(unittest.TestCase):
    def test_its_files_are_changed_by_its_user_alone(self):
        rng = random.Random(1)
        for _ in range(20):
            world = OneWayWorld(["sender", "both", "both"], Rule(3, 100), [[], [], []])
            files = {}
            for now in range(30):
                number, name, content = rng.randint(1, 3), rng.choice("abc"), random_content(rng, 8)
                world.obey(("edit", number, name, tuple(content), now))
                if number == 1:
                    files[name] = content
                command = rng.choice([("round", now), ("work", 1, now), ("override", 1, now), ("scan", 1, now)])
                world.obey(command)
                self.assertEqual(files_of(world.devices[0]), files)
                if command[0] == "override":
                    self.assertEqual(world.devices[0].differing(), [])

    def test_found_in_an_override(self):
        """The power ends while the log is written anew behind the record of an overriding entry."""
        words = []
        for many in range(10, 22):
            world = OneWayWorld(["sender", "both"], Rule(3, 100), [[], []])
            world.obey(("edit", 1, "a", (1,), 1))
            world.obey(("round", 20))
            world.obey(("edit", 2, "a", (2,), 21))
            world.obey(("round", 22))
            for at in range(many):
                world.obey(("edit", 1, "z", (at,), at))
                world.obey(("scan", 1, at))
            rows = len(world.history())
            told, budget = None, 0
            while told is None:
                tried = deepcopy(world)
                tried.obey(("budget", 1, budget))
                told = tried.obey(("override", 1, 30))
                new = tried.history()[rows:]
                self.assertLessEqual(len(new), 1)
                words += [row[1] for row in new]
                if new:
                    self.assertEqual((new[0][0], new[0][3].blocks, new[0][3].maker[0]), (1, (257,), 1))
                budget += 11
            self.assertEqual(told, 1)
        self.assertEqual(sorted(set(words)), ["found", "override"])
