"""Receivers (points 21.4 and 21.5)."""

import random
import unittest

from folderkin.attic import Rule
from folderkin.content import split
from folderkin.devices import Device
from folderkin.entries import winner
from folderkin.errors import PowerCut
from folderkin.oneway import Receiver
from folderkin.patterns import parse_patterns
from folderkin.store import Store, from_durable
from tests.records import told_by
from tests.rigs import A, B, BA, BB, BC, BD, C, D
from tests.rigs import cut_offs, device_of, gives, has, intent, own, peer, state, unchanged, upto, wants
from tests.samples import all_of, gone, shown

NOW = 60


def receiver_of(files=(), rows=(), **parts):
    return device_of(files, rows, made=Receiver, **parts)


def own_of(device, name="a"):
    pair = device.book.own(name)
    return pair and shown(pair[0])


class Receivers(unittest.TestCase):
    def test_a_device_with_its_attributes(self):
        store, patterns = Store({"a": (A, 1)}, []), parse_patterns("*.o")
        receiver = Receiver(4, store, Rule(1, 2), patterns)
        patterns.clear()
        self.assertIsInstance(receiver, Device)
        self.assertIs(receiver.store, store)
        self.assertEqual((receiver.number, receiver.rule, receiver.patterns), (4, Rule(1, 2), parse_patterns("*.o")))
        self.assertEqual((receiver.book.names(), receiver.leaves_out("b.o~1"), receiver.leaves_out("b")),
            ([], True, False))

    def test_it_hears_and_answers_as_a_device(self):
        letters = [
            ("hello", 2), ("ask", 0), ("entries", 0, 9, ((wants(B), 8), (wants(C, name="c"), 9))),
            ("request", "a", 0, BA), ("request", "a", 0, BB), gives(BB), ("refused", BB), ("hello", 2)]
        rows = [own(has(A)), upto(2, 3)]
        first, second = device_of({"a": A}, rows), receiver_of({"a": A}, rows)
        for letter in letters:
            self.assertEqual(shown(first.hear(2, letter)), shown(unchanged(self, second.hear, 2, letter)))
            self.assertEqual((all_of(first.store), told_by(first.book)), (all_of(second.store), told_by(second.book)))
            self.assertEqual(first.ask(2), second.ask(2))

    def test_it_takes_as_a_device_where_no_copy_is_made(self):
        above = ((1, 1), (2, 5))
        rows = [own(has(A)), peer(2, wants(B + C, vector=above)), own(has(A, name="b"), 2),
            peer(2, wants(A, name="b"), 2),
                own(has(D, name="c"), 3), peer(3, gone(name="c", vector=above, height=4)), peer(3, gone(name="d"), 2),
                peer(2, wants([], name="e"), 3)]
        files = {"a": A, "b": A, "c": D}
        first, second = device_of(files, rows), receiver_of(files, rows)
        for _ in range(4):
            letters = first.work([3, 2], NOW)
            self.assertEqual(letters, unchanged(self, second.work, [3, 2], NOW))
            self.assertEqual(state(first), state(second))
            for number, letter in letters:
                for device in (first, second):
                    device.hear(number, gives(letter[3]))
        self.assertEqual((second.needed(), second.store.read("a")), ([], (B + C, 20)))


class Strange(unittest.TestCase):
    def assert_strange(self, files, rows, expected, **parts):
        receiver = receiver_of(files, rows, **parts)
        self.assertEqual(unchanged(self, receiver.strange), expected)
        before = state(receiver)
        receiver.strange().append("x")
        self.assertEqual((receiver.strange(), state(receiver)), (expected, before))
        for name in expected:
            self.assertNotIn(name, receiver.needed())

    def test_strange_names(self):
        self.assert_strange({"a": A}, [], ["a"])
        self.assert_strange({"a": B}, [own(has(A))], ["a"])
        self.assert_strange({}, [own(has(A))], ["a"])
        self.assert_strange({"a": []}, [own(gone())], ["a"])
        self.assert_strange({"a": C}, [own(has(A)), intent(wants(B))], ["a"])
        self.assert_strange({"a": B}, [peer(2, wants(B))], ["a"])
        self.assert_strange({"a": B}, [own(has(A)), peer(2, wants(B))], ["a"])

    def test_others(self):
        self.assert_strange({}, [], [])
        self.assert_strange({"a": (A, 77)}, [own(has(A))], [])
        self.assert_strange({}, [own(gone())], [])
        self.assert_strange({}, [peer(2, wants(B))], [])
        # It agrees with an intent, also a deleted one, or one without an own entry.
        self.assert_strange({"a": B}, [own(has(A)), intent(wants(B))], [])
        self.assert_strange({}, [own(has(A)), intent(gone(height=3))], [])
        self.assert_strange({"a": B}, [intent(wants(B))], [])
        self.assert_strange({"a": A}, [own(has(A)), intent(wants(B))], [])

    def test_names_ascend(self):
        rows = [own(has(A, name="b"), 1), own(has(A, name="B"), 2), own(has(A, name="x.o"), 3)]
        self.assert_strange({"b": C, "a": A, "~": A, "y.o~1-1": A}, rows, ["B", "a", "b", "~"], patterns="*.o")

    def test_they_are_not_needed(self):
        rows = [own(has(A)), peer(2, wants(B)), peer(2, wants(B, name="b"), 2)]
        self.assertEqual(receiver_of({"a": A}, rows).needed(), ["a", "b"])
        self.assertEqual(receiver_of({"a": C}, rows).needed(), ["b"])
        self.assertEqual(receiver_of({"b": D}, rows).needed(), [])
        receiver = receiver_of({"b": D, "z": B}, rows)
        before = state(receiver)
        self.assertEqual((receiver.work([2], NOW), state(receiver)), ([], before))

    def test_one_that_the_user_sets_back(self):
        receiver = receiver_of({"a": C, "z": B}, [own(has(A)), own(has(B, name="z"), 2), peer(2, wants(B))])
        receiver.work([2], NOW)
        self.assertEqual((receiver.strange(), receiver.store.read("a")), (["a"], (C, 1)))
        receiver.store.write("a", A, 3)
        self.assertEqual((receiver.strange(), receiver.needed()), ([], ["a"]))
        receiver.work([2], NOW)
        self.assertEqual(receiver.store.read("a"), (B, 20))


class Scanning(unittest.TestCase):
    def test_no_edits(self):
        receiver = receiver_of({"a": C, "b": A}, [own(has(A)), own(has(A, name="c"), 2)])
        before = state(receiver)
        self.assertEqual((receiver.scan(NOW), state(receiver), receiver.store.done()), ([], before, 0))

    def test_fitting_intents(self):
        rows = [own(has(A)), intent(wants(B)), own(has(A, name="b"), 2), intent(gone(name="b", height=3), 2),
                own(has(A, name="c"), 3), intent(wants(B, name="c"), 3), intent(wants(D, name="d"), 4),
                own(has(A, name="e"), 4), intent(wants(B, name="e"), 4), own(has(A, name="x.o"), 5),
                intent(wants(B, name="x.o"), 5)]
        receiver = receiver_of({"a": B, "c": C, "d": D, "e": A, "x.o": B}, rows, patterns="*.o")
        found = receiver.scan(NOW)
        expected = [wants(B), gone(name="b", height=3), wants(D, name="d")]
        self.assertEqual(shown(found), shown(expected))
        self.assertEqual(shown(receiver.changes.rows()), shown([
            (1, "take", has(A), expected[0]), (1, "take", has(A, name="b"), expected[1]),
            (1, "take", None, expected[2])]))
        # c is strange, and e agrees with its own entry.
        self.assertEqual((receiver.book.intents(), receiver.strange()), (["c", "e", "x.o"], ["c"]))

    def test_in_a_work(self):
        # Step 1 of point 12.4 takes the intent.
        receiver = receiver_of({"a": B}, [own(has(A)), intent(wants(B)), peer(2, wants(B))])
        self.assertEqual((receiver.work([2], NOW), receiver.needed()), ([], []))
        self.assertEqual(shown(receiver.changes.rows()), shown([(1, "take", has(A), wants(B))]))


class NoCopies(unittest.TestCase):
    def test_no_copies(self):
        receiver = receiver_of({"a": A, "z": B}, [own(has(A)), own(has(B, name="z"), 2), peer(2, wants(B))])
        receiver.work([2], NOW)
        self.assertEqual(receiver.store.names(), ["a", "z"])
        self.assertEqual(receiver.store.attic(), [("a", ((1, 1),), A)])
        self.assertEqual(shown(receiver.changes.rows()), shown([(1, "take", has(A), wants(B))]))

    def test_a_file_under_the_copy_name(self):
        receiver = receiver_of({"a": A, "a~1-1": C, "z": B}, [own(has(A)), peer(2, wants(B))])
        receiver.work([2], NOW)
        self.assertEqual((receiver.book.names(), receiver.strange()), (["a"], ["a~1-1", "z"]))


class Reverting(unittest.TestCase):
    def reverted(self, files, rows, works=1, peers=(2,), **parts):
        receiver = receiver_of(files, rows, **parts)
        strange = receiver.strange()
        self.assertEqual(unchanged(self, receiver.revert), strange)
        letters = [receiver.work(list(peers), NOW) for _ in range(works)]
        return receiver, letters

    def assert_rows(self, receiver, *rows):
        self.assertEqual(shown(receiver.changes.rows()), shown([(1, *row) for row in rows]))

    def test_revert_itself_changes_nothing(self):
        receiver = receiver_of({"a": C, "b": A}, [own(has(A))])
        before = state(receiver)
        found = receiver.revert()
        self.assertEqual((found, state(receiver), receiver.store.done()), (["a", "b"], before, 0))
        found.clear()
        receiver.work([2], NOW)
        self.assertEqual((receiver.strange(), receiver.store.names()), ([], ["a"]))

    def test_without_revert_nothing_is_set_back(self):
        receiver = receiver_of({"a": C, "z": A}, [own(has(A))])
        before = state(receiver)
        self.assertEqual((receiver.work([2], NOW), state(receiver)), ([], before))

    def test_a_winner_that_is_the_own_entry(self):
        # Its blocks are near in the strange file itself.
        receiver, letters = self.reverted({"a": A + [7]}, [own(has(A), 1)])
        self.assertEqual((letters, receiver.store.read("a")), ([[]], (A, 10)))
        self.assertEqual(receiver.store.attic(), [("a", (), A + [7])])
        self.assert_rows(receiver)
        self.assertEqual((receiver.book.intents(), own_of(receiver), receiver.strange()), ([], shown(has(A)), []))

    def test_a_winner_that_is_not_the_own_entry(self):
        receiver, _ = self.reverted({"a": C, "z": B}, [own(has(A)), own(has(B, name="z"), 2), peer(2, wants(B))])
        self.assertEqual((receiver.store.read("a"), receiver.store.attic()), ((B, 20), [("a", (), C)]))
        self.assert_rows(receiver, ("take", has(A), wants(B)))
        self.assertEqual((receiver.book.intents(), receiver.needed()), ([], []))

    def test_a_winner_that_is_alike_to_the_own_entry(self):
        receiver, _ = self.reverted({"a": A + C}, [own(has(A)), peer(2, wants(A))])
        best = winner([has(A), wants(A)])
        self.assert_rows(receiver, ("join", has(A), best))
        self.assertEqual((own_of(receiver), receiver.store.read("a")), (shown(best), (A, 20)))

    def test_without_an_own_entry(self):
        receiver, _ = self.reverted({"a": C + B}, [peer(2, wants(B))])
        self.assert_rows(receiver, ("take", None, wants(B)))
        self.assertEqual((receiver.store.read("a"), receiver.store.attic()), ((B, 20), [("a", (), C + B)]))

    def test_a_file_that_the_user_removed(self):
        receiver, _ = self.reverted({"z": A}, [own(has(A)), own(has(A, name="z"), 2)])
        self.assertEqual((receiver.store.read("a"), receiver.store.attic()), ((A, 10), []))
        self.assert_rows(receiver)

    def test_a_deleted_winner(self):
        receiver, _ = self.reverted({"a": C}, [own(gone())])
        self.assertEqual((receiver.store.names(), receiver.store.attic()), ([], [("a", (), C)]))
        self.assert_rows(receiver)
        best = gone(height=4, vector=((2, 5),))
        receiver, _ = self.reverted({"a": C}, [own(has(A)), peer(2, best)])
        self.assertEqual((receiver.store.names(), receiver.store.attic()), ([], [("a", (), C)]))
        self.assert_rows(receiver, ("take", has(A), best))
        # Only beginning to pull cuts a temporary file.
        receiver, _ = self.reverted({"a": C}, [own(gone()), peer(2, best)], temps={"a": A})
        self.assert_rows(receiver, ("join", gone(), winner([gone(), best])))
        self.assertEqual(receiver.store.temp("a"), A)

    def test_removing_is_a_write_also_if_there_is_no_file(self):
        # The user removed the file; the intent, the removal and the record are writes.
        best = gone(height=4, vector=((2, 5),))
        receiver, _ = self.reverted({}, [own(has(A)), peer(2, best)])
        size = len(receiver.store.log()) - len(receiver_of({}, [own(has(A)), peer(2, best)]).store.log())
        self.assertEqual(receiver.store.done(), size + 1)
        self.assertEqual(receiver.store.attic(), [])
        self.assert_rows(receiver, ("take", has(A), best))

    def test_no_known_entries(self):
        receiver, letters = self.reverted({"a": C, "b": []}, [])
        self.assertEqual((letters, receiver.store.names()), ([[]], []))
        self.assertEqual(receiver.store.attic(), [("a", (), C), ("b", (), [])])
        self.assert_rows(receiver)
        self.assertEqual((receiver.book.all_names(), receiver.store.done()), ([], 4))

    def test_by_the_rule(self):
        receiver, _ = self.reverted({"a": C}, [], rule=Rule(0, 9))
        self.assertEqual((receiver.store.names(), receiver.store.attic()), ([], []))

    def test_waiting_for_blocks(self):
        rows = [own(has(A + B)), peer(2, has(A + B)), peer(3, wants(D, name="b"))]
        receiver, letters = self.reverted({"a": C}, rows, 1, (3, 2))
        self.assertEqual(letters, [[(2, ("request", "a", 0, BA)), (3, ("request", "b", 0, BD))]])
        self.assertEqual((receiver.store.read("a"), receiver.store.attic()), ((C, 1), []))
        receiver.hear(2, gives(BA))
        self.assertEqual(receiver.work([2], NOW), [(2, ("request", "a", 1, BB))])
        receiver.hear(2, gives(BB))
        self.assertEqual(receiver.work([2], NOW), [])
        self.assertEqual((receiver.store.read("a"), receiver.store.attic()), ((A + B, 10), [("a", (), C)]))
        # Then its content is not being brought together any more.
        receiver.hear(2, gives(BA))
        self.assertEqual(receiver.store.temp_names(), [])

    def test_its_requests_stand_ahead_of_the_others(self):
        rows = [peer(2, wants(A)), own(has(B + C, name="b"), 1), peer(2, has(B + C, name="b"), 2),
            peer(2, wants(B, name="c"), 3),
                own(has(C, name="d"), 2), peer(2, has(C, name="d"), 4), peer(2, wants(D, name="e"), 5)]
        receiver, letters = self.reverted({"b": D + A[:3], "d": A[:3]}, rows)
        self.assertEqual(letters, [[
            (2, ("request", "b", 0, BB)), (2, ("request", "d", 0, BC)), (2, ("request", "a", 0, BA))]])
        # The block B is asked for once; D is near by now, in the strange file.
        self.assertEqual(receiver.store.read("e"), (D, 20))

    def test_a_block_for_which_no_letter_goes_out_may_be_asked_for_again(self):
        rows = [own(has(A)), peer(3, wants(A + B, name="b"))]
        receiver, letters = self.reverted({"a": C}, rows, 1, (2, 3))
        self.assertEqual(letters, [[(3, ("request", "b", 0, BA))]])
        receiver.hear(3, gives(BA))
        self.assertEqual(receiver.work([2, 3], NOW), [(3, ("request", "b", 1, BB))])
        self.assertEqual(receiver.store.read("a"), (A, 10))

    def test_a_name_that_is_not_strange_when_its_turn_comes(self):
        # The user sets it back; when it becomes strange again, it is not set back before the next reverting.
        rows = [own(has(A)), own(has(B, name="z"), 2)]
        receiver = receiver_of({"a": C, "z": B}, rows)
        self.assertEqual(receiver.revert(), ["a"])
        receiver.store.write("a", A, 3)
        before = state(receiver)
        receiver.work([2], NOW)
        self.assertEqual((state(receiver), receiver.store.done()), (before, 1))
        receiver.store.write("a", D, 4)
        receiver.work([2], NOW)
        self.assertEqual((receiver.strange(), receiver.store.read("a")), (["a"], (D, 4)))
        receiver.store.write("y", A, 5)
        self.assertEqual(receiver.revert(), ["a", "y"])
        receiver.work([2], NOW)
        self.assertEqual((receiver.strange(), receiver.store.names()), ([], ["a", "z"]))

    def test_a_name_that_becomes_strange_later(self):
        receiver = receiver_of({"b": C}, [own(has(A)), own(has(B, name="z"), 2)])
        receiver.store.write("a", A, 1)
        self.assertEqual(receiver.revert(), ["b", "z"])
        receiver.store.write("a", C, 1)
        receiver.work([2], NOW)
        self.assertEqual((receiver.strange(), receiver.store.read("a")), (["a", "z"], (C, 1)))
        receiver.store.write("b", C, 5)
        receiver.work([2], NOW)
        self.assertEqual(receiver.strange(), ["a", "b", "z"])

    def test_these_and_no_others(self):
        # A later reverting takes the place of an earlier one.
        receiver = receiver_of({"a": C}, [own(has(A))])
        self.assertEqual(receiver.revert(), ["a"])
        self.assertEqual(receiver.work([], NOW), [])
        receiver.store.write("a", A, 1)
        receiver.store.write("b", C, 1)
        self.assertEqual(receiver.revert(), ["b"])
        receiver.store.write("a", C + A, 1)
        receiver.work([], NOW)
        self.assertEqual((receiver.strange(), receiver.store.names()), (["a"], ["a"]))

    def test_left_out_names(self):
        receiver, _ = self.reverted({"a.o": C, "b.o~1-1": C, "c": C}, [], patterns="*.o")
        self.assertEqual(receiver.store.names(), ["a.o", "b.o~1-1"])

    def test_the_winner_may_change_while_it_waits(self):
        receiver = receiver_of({"a": C}, [own(has(A)), peer(2, has(A))])
        receiver.revert()
        self.assertEqual(receiver.work([2], NOW), [(2, ("request", "a", 0, BA))])
        receiver.hear(2, ("entries", 0, 9, ((wants(B), 9),)))
        self.assertEqual(receiver.work([2], NOW), [(2, ("request", "a", 0, BB))])
        receiver.hear(2, ("entries", 9, 10, ((gone(height=9, vector=((2, 9),)), 10),)))
        self.assertEqual(receiver.work([2], NOW), [])
        self.assertEqual((receiver.store.names(), receiver.store.attic()), ([], [("a", (), C)]))

    def test_the_writes_in_their_order(self):
        rows = [own(has(A)), own(has(B, name="z"), 2), peer(2, wants(B))]
        work = lambda device: (device.revert(), device.work([2], NOW))
        kept = []
        for budget, device in cut_offs(lambda: receiver_of({"a": C, "z": B}, rows), work, lambda device: None):
            temp = len(device.store.temp("a") or [])
            content = device.store.read("a")[0]
            row = (temp, len(device.store.attic()), device.book.intents(), content, device.book.own("a")[0].height)
            if row not in kept:
                kept.append(row)
        self.assertEqual(kept, [(size, 0, [], C, 1) for size in range(5)] + [
            (4, 1, [], C, 1), (4, 1, ["a"], C, 1), (0, 1, ["a"], B, 1), (0, 1, [], B, 5)])

    def test_a_power_cut_at_each_write(self):
        best = gone(name="c", height=4, vector=((2, 5),))
        rows = [own(has(A)), own(has(B, name="b"), 2), peer(2, wants(B)), own(has(A, name="c"), 3), peer(2, best, 2),
                own(has(B, name="z"), 4), peer(2, has(B, name="b", vector=((2, 3),)), 3)]
        files = {"a": C, "b": C + B, "c": D, "d": D, "z": B}

        def work(device):
            device.revert()
            device.work([2], NOW)

        def go_on(device):
            device.scan(NOW)
            work(device)

        found = list(cut_offs(lambda: receiver_of(files, rows * 2), work, go_on))
        whole = found[-1][1]
        self.assertEqual((whole.store.names(), whole.strange(), whole.needed()), (["a", "b", "z"], [], []))
        self.assertEqual(whole.store.attic(), [
            ("a", (), C), ("b", (), C + B), ("c", (), D), ("d", (), D)])
        for budget, device in found:
            self.assertEqual(all_of(device.store)[:3], all_of(whole.store)[:3], budget)
            for name in "abcdz":
                self.assertEqual(own_of(device, name), own_of(whole, name), budget)

    def test_a_power_cut_ends_the_reverting(self):
        receiver = receiver_of({"a": C, "b": C}, [])
        receiver.revert()
        receiver.store.set_budget(2)
        self.assertRaises(PowerCut, receiver.work, [2], NOW)
        again = Receiver(1, from_durable(receiver.store.durable()), receiver.rule, [])
        self.assertEqual((again.work([2], NOW), again.strange(), again.store.names()), ([], ["b"], ["b"]))


class Drawn(unittest.TestCase):
    def test_setting_back(self):
        """Behind works with peers that have all blocks, nothing is strange; what was strange lies in the attic."""
        rng = random.Random(1)
        contents = [[byte for _ in range(rng.randint(0, 3)) for byte in [rng.randrange(4)] * 4] for _ in range(8)]
        for _ in range(100):
            rows, files = [], {}
            for at, name in enumerate("abcd"):
                value = has(rng.choice(contents), name=name, vector=((1, at + 1),), maker=(1, at + 1))
                if rng.random() < 0.6:
                    rows += [own(value, at + 1), peer(2, value, at + 1)]
                if rng.random() < 0.4:
                    best = rng.choice([wants(rng.choice(contents), name=name),
                        gone(name=name, height=3, vector=((3, 1),))])
                    rows.append(peer(3, best, at + 1))
                if rng.random() < 0.6:
                    files[name] = rng.choice(contents)
            receiver = receiver_of(files, rows)
            strange = receiver.revert()
            self.assertEqual(strange, receiver.strange())
            for _ in range(30):
                for number, letter in receiver.work([3, 2], NOW):
                    receiver.hear(number, gives(letter[3]))
            self.assertEqual((receiver.strange(), receiver.needed(), receiver.store.temp_names()), ([], [], []))
            for name in strange:
                if name in files:
                    self.assertIn((name, (), files[name]), receiver.store.attic())
            for name in receiver.store.names():
                self.assertEqual(split(receiver.store.read(name)[0]), receiver.book.own(name)[0].blocks)
            self.assertNotIn("copy", [row[1] for row in receiver.changes.rows()])
            self.assertNotIn("edit", [row[1] for row in receiver.changes.rows()])
