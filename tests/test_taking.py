"""Taking a name that is needed (point 12.4)."""

import random
import unittest

from folderkin.attic import Rule
from folderkin.content import split
from folderkin.entries import copy_of, edited, winner
from tests.records import told_by
from tests.rigs import A, B, BA, BB, C, D
from tests.rigs import cut_offs, device_of, gives, has, intent, own, peer, state, upto, wants
from tests.samples import all_of, entry, gone, random_content, shown

TIME = 50


def rows_of(device):
    return shown(device.changes.rows())


def own_of(device, name="a"):
    return device.book.own(name)[0]


class TakeTest(unittest.TestCase):
    def assert_own(self, device, value, name="a"):
        self.assertEqual(shown(own_of(device, name)), shown(value))

    def assert_rows(self, device, *rows):
        self.assertEqual(rows_of(device), shown([(device.number, *row) for row in rows]))

    def assert_cut_offs(self, build, go_on=None):
        """The power ends at each write of a work; the devices that go on end with the same."""
        go_on = go_on or (lambda device: (device.scan(TIME), device.work([2, 3], TIME)))
        found = list(cut_offs(build, lambda device: device.work([2, 3], TIME), go_on))
        whole = found[-1][1]
        for budget, device in found[:-1]:
            self.assertEqual(
                (all_of(device.store)[:3], device.needed()), (all_of(whole.store)[:3], whole.needed()), budget)
            for name in whole.book.names():
                self.assertEqual(own_of(device, name).blocks, own_of(whole, name).blocks, budget)
                self.assertEqual(own_of(device, name).deleted, own_of(whole, name).deleted, budget)
            self.assertEqual(device.book.names(), whole.book.names())
            self.assertEqual(device.book.intents(), [])
        return found


class FirstStep(TakeTest):
    def test_a_file_that_does_not_agree_is_scanned(self):
        # The user's edit is above the winner, so the name is needed no more.
        device = device_of({"a": (C, 90)}, [own(has(A)), peer(2, wants(B, height=2))])
        self.assertEqual(device.needed(), ["a"])
        self.assertEqual(device.work([2], TIME), [])
        edit = edited(has(A), "a", 1, 2, False, 90, split(C))
        self.assert_own(device, edit)
        self.assert_rows(device, ("edit", has(A), edit))
        self.assertEqual((device.needed(), device.store.read("a"), device.store.attic()), ([], (C, 90), []))

    def test_the_name_is_still_needed(self):
        device = device_of({"a": (C, 90), "z": B}, [own(has(A)), peer(2, wants(B))])
        self.assertEqual(device.work([2], TIME), [])
        edit = edited(has(A), "a", 1, 2, False, 90, split(C))
        copy = copy_of(edit, 1, 3)
        self.assert_rows(device, ("edit", has(A), edit), ("copy", None, copy), ("take", edit, wants(B)))
        self.assertEqual(device.store.read("a"), (B, 20))
        self.assertEqual(device.store.read("a~1-2"), (C, 90))
        self.assertEqual(device.store.attic(), [("a", edit.vector, C)])

    def test_the_user_removed_the_file(self):
        device = device_of({"z": B}, [own(has(A)), peer(2, wants(B))])
        device.work([2], TIME)
        edit = edited(has(A), "a", 1, 2, True, TIME, ())
        self.assert_rows(device, ("edit", has(A), edit), ("take", edit, wants(B)))
        self.assertEqual((device.store.read("a"), device.store.attic()), ((B, 20), []))

    def test_the_user_made_a_file(self):
        device = device_of({"a": (C, 3), "z": B}, [peer(2, wants(B))])
        device.work([2], TIME)
        edit = edited(None, "a", 1, 1, False, 3, split(C))
        self.assert_rows(device, ("edit", None, edit), ("copy", None, copy_of(edit, 1, 2)), ("take", edit, wants(B)))

    def test_the_user_made_the_same(self):
        # Then there is nothing left but to record the joined winner.
        device = device_of({"a": (B, 3)}, [peer(2, wants(B))])
        device.work([2], TIME)
        edit = edited(None, "a", 1, 1, False, 3, split(B))
        best = winner([edit, wants(B)])
        self.assertEqual(best.vector, ((1, 1), (2, 5)))
        self.assert_rows(device, ("edit", None, edit), ("join", edit, best))
        self.assertEqual(device.store.read("a"), (B, 3))

    def test_an_intent_is_taken(self):
        device = device_of({"a": (B, 20)}, [own(has(A)), peer(2, wants(B)), intent(wants(B))])
        self.assertEqual(device.work([2], TIME), [])
        self.assert_rows(device, ("take", has(A), wants(B)))
        self.assertEqual(device.needed(), [])

    def test_another_intent_is_not_taken(self):
        device = device_of({"a": (D, 90)}, [own(has(A)), peer(2, wants(B, height=2)), intent(wants(B, height=2))])
        device.work([2], TIME)
        self.assert_rows(device, ("edit", has(A), edited(has(A), "a", 1, 2, False, 90, split(D))))

    def test_a_file_that_agrees_is_not_scanned(self):
        device = device_of({"a": (A, 99), "b": D, "z": B}, [own(has(A)), peer(2, wants(B, vector=((1, 1), (2, 5))))])
        device.work([2], TIME)
        self.assert_rows(device, ("take", has(A), wants(B, vector=((1, 1), (2, 5)))))

    def test_power_cuts(self):
        self.assert_cut_offs(lambda: device_of({"a": (C, 90)}, [own(has(A)), peer(2, wants(B, height=2))]))
        self.assert_cut_offs(lambda: device_of({"a": (C, 90), "z": B}, [own(has(A)), peer(2, wants(B))]))


class Copies(TakeTest):
    def test_without_a_file_under_the_copy_name(self):
        first = has(A, maker=(4, 9), time=6)
        device = device_of({"a": (A, 77), "z": B}, [own(first, 3), peer(2, wants(B))])
        device.work([2], TIME)
        copy = copy_of(first, 1, 4)
        # With the time of the own entry, not that of the file.
        self.assertEqual(device.store.read("a~4-9"), (A, 6))
        self.assert_own(device, copy, "a~4-9")
        self.assertEqual(copy.maker, (4, 9))
        self.assert_rows(device, ("copy", None, copy), ("take", first, wants(B)))

    def test_with_a_file_under_the_copy_name(self):
        device = device_of({"a": (A, 7), "a~1-1": (C, 8), "z": B}, [own(has(A)), peer(2, wants(B))])
        device.work([2], TIME)
        edit = edited(None, "a~1-1", 1, 2, False, 8, split(C))
        self.assert_rows(device, ("edit", None, edit), ("take", has(A), wants(B)))
        self.assertEqual(device.store.read("a~1-1"), (C, 8))
        self.assertEqual(device.store.attic(), [("a", ((1, 1),), A)])

    def test_with_the_copy_that_a_power_cut_left(self):
        device = device_of({"a": A, "a~1-1": A, "z": B}, [own(has(A), 4), peer(2, wants(B))])
        device.work([2], TIME)
        self.assert_own(device, edited(None, "a~1-1", 1, 5, False, 1, split(A)), "a~1-1")

    def test_before_the_content_is_brought_together(self):
        device = device_of({"a": A}, [own(has(A)), peer(2, wants(B))])
        self.assertEqual(device.work([2], TIME), [(2, ("request", "a", 0, BB))])
        self.assertEqual(device.store.names(), ["a", "a~1-1"])
        self.assertEqual(device.store.attic(), [])
        self.assert_rows(device, ("copy", None, copy_of(has(A), 1, 2)))
        # It is made once alone.
        device.work([2], TIME)
        self.assertEqual(device.book.next_number(), 3)

    def test_a_removed_one(self):
        best = gone(vector=((2, 5),), height=5, maker=(2, 5), time=20)
        device = device_of({"a": A}, [own(has(A)), peer(2, best)])
        device.work([2], TIME)
        self.assertEqual(device.store.names(), ["a~1-1"])
        self.assert_rows(device, ("copy", None, copy_of(has(A), 1, 2)), ("take", has(A), best))

    def test_none_is_needed(self):
        above = wants(B, vector=((1, 1), (2, 5)))
        copied = [peer(3, wants(C, name="a~1-1"), 4)]
        for rows in ([peer(2, above)], [peer(2, wants(B)), *copied]):
            device = device_of({"a": A, "z": B}, [own(has(A)), *rows], patterns="c")
            device.work([], TIME)
            self.assertEqual((device.store.names(), device.store.read("a")), (["a", "z"], (B, 20)))

    def test_of_a_copy(self):
        # The copy of an entry whose name is its own copy name is not needed; others are.
        name = "a~1-1"
        device = device_of({name: A, "z": B}, [own(has(A, name=name)), peer(2, wants(B, name=name))])
        device.work([2], TIME)
        self.assertEqual(device.store.names(), [name, "z"])
        device = device_of(
            {name: A, "z": B}, [own(has(A, name=name, maker=(3, 3))), peer(2, wants(B, name=name))])
        device.work([2], TIME)
        self.assertEqual(device.store.names(), [name, "a~3-3", "z"])

    def test_power_cuts(self):
        self.assert_cut_offs(lambda: device_of({"a": A, "z": B}, [own(has(A)), peer(2, wants(B))]))
        best = gone(vector=((2, 5),), height=5, maker=(2, 5), time=20)
        self.assert_cut_offs(lambda: device_of({"a": A + B}, [own(has(A + B)), peer(2, best)]))


class Recorded(TakeTest):
    def test_the_own_entry_is_alike(self):
        device = device_of({"a": (A, 7)}, [own(has(A)), peer(2, wants(A))])
        self.assertEqual(device.work([2], TIME), [])
        best = winner([has(A), wants(A)])
        self.assert_own(device, best)
        self.assert_rows(device, ("join", has(A), best))
        # Neither the file nor its time changes.
        self.assertEqual((device.store.read("a"), device.store.attic()), ((A, 7), []))

    def test_both_are_deleted(self):
        first, second = gone(), gone(vector=((2, 5),), height=5, maker=(2, 5))
        device = device_of({}, [own(first, 4), peer(2, second)])
        device.work([2], TIME)
        self.assert_rows(device, ("join", first, winner([first, second])))

    def test_nothing_is_there_and_the_winner_is_deleted(self):
        device = device_of({}, [peer(2, gone())])
        device.work([2], TIME)
        self.assert_rows(device, ("take", None, gone()))
        self.assertEqual((device.needed(), device.book.next_number()), ([], 2))

    def test_power_cuts(self):
        self.assert_cut_offs(lambda: device_of({"a": A}, [own(has(A)), peer(2, wants(A))]))
        self.assert_cut_offs(lambda: device_of({}, [peer(2, gone())]))


class Removed(TakeTest):
    BEST = gone(vector=((1, 1), (2, 5)), height=5, maker=(2, 5), time=20)

    def build(self, rule=Rule(9, 1000)):
        return device_of({"a": (A, 7), "b": B}, [own(has(A)), peer(2, self.BEST)], rule=rule)

    def test_the_content_lies_in_the_attic(self):
        device = self.build()
        self.assertEqual(device.work([2], TIME), [])
        self.assertEqual(device.store.attic(), [("a", ((1, 1),), A)])
        self.assertEqual(device.store.names(), ["b"])
        self.assert_own(device, self.BEST)
        self.assert_rows(device, ("take", has(A), self.BEST))
        self.assertEqual(device.book.intents(), [])

    def test_the_temporary_file_stays(self):
        device = device_of({"a": A}, [own(has(A)), peer(2, self.BEST)], temps={"a": B})
        device.work([2], TIME)
        self.assertEqual((device.store.names(), device.store.temp("a")), ([], B))

    def test_by_the_rule(self):
        device = self.build(Rule(0, 1000))
        device.work([2], TIME)
        self.assertEqual((device.store.attic(), device.store.names()), ([], ["b"]))
        device = device_of({"a": A}, [own(has(A)), peer(2, self.BEST)], [("a", (), B), ("c", (), C)], rule=Rule(1, 8))
        device.work([2], TIME)
        self.assertEqual(device.store.attic(), [("c", (), C), ("a", ((1, 1),), A)])

    def test_the_writes_in_their_order(self):
        kept = []
        for budget, device in cut_offs(self.build, lambda device: device.work([2], TIME), lambda device: None):
            row = (len(device.store.attic()), device.book.intents(), device.store.names(), own_of(device).deleted)
            if row not in kept:
                kept.append(row)
        self.assertEqual(kept, [
            (0, [], ["a", "b"], False), (1, [], ["a", "b"], False), (1, ["a"], ["a", "b"], False),
            (1, ["a"], ["b"], False), (1, [], ["b"], True)])

    def test_power_cuts(self):
        for budget, device in self.assert_cut_offs(self.build):
            self.assertEqual(device.store.attic(), [("a", ((1, 1),), A)])


class Placed(TakeTest):
    BEST = wants(A + B, vector=((1, 1), (2, 5)))

    def test_a_new_file(self):
        device = device_of({"z": A + B}, [peer(2, self.BEST)])
        self.assertEqual(device.work([2], TIME), [])
        self.assertEqual((device.store.read("a"), device.store.attic()), ((A + B, 20), []))
        self.assert_rows(device, ("take", None, self.BEST))

    def test_the_old_content_lies_in_the_attic(self):
        device = device_of({"a": (C, 3), "z": A + B}, [own(has(C)), peer(2, self.BEST)])
        device.work([2], TIME)
        self.assertEqual(device.store.attic(), [("a", ((1, 1),), C)])
        self.assert_rows(device, ("take", has(C), self.BEST))
        self.assertEqual(device.store.temp_names(), [])

    def test_over_a_deleted_entry(self):
        first = gone(vector=((1, 1),), maker=(1, 1))
        device = device_of({"z": A + B}, [own(first), peer(2, self.BEST)])
        device.work([2], TIME)
        self.assert_rows(device, ("take", first, self.BEST))
        self.assertEqual(device.store.attic(), [])

    def test_an_empty_content(self):
        best = wants([])
        device = device_of({}, [peer(2, best)])
        self.assertEqual(device.work([], TIME), [])
        self.assertEqual(device.store.read("a"), ([], 20))
        self.assert_rows(device, ("take", None, best))

    def test_the_last_step_waits_for_blocks(self):
        device = device_of({"a": C}, [own(has(C)), peer(2, self.BEST)])
        for block, temp in ((BA, None), (BB, A)):
            self.assertEqual(device.store.temp("a"), temp)
            self.assertEqual([letter[3] for _, letter in device.work([2], TIME)], [block])
            self.assertEqual((device.store.read("a"), device.store.attic()), ((C, 1), []))
            self.assertEqual((device.book.intents(), device.needed()), ([], ["a"]))
            device.hear(2, gives(block))
        self.assertEqual(device.work([2], TIME), [])
        self.assertEqual((device.store.read("a"), device.needed()), ((A + B, 20), []))
        self.assertEqual(device.store.attic(), [("a", ((1, 1),), C)])

    def test_what_was_brought_together_stays(self):
        device = device_of({}, [peer(2, self.BEST)], temps={"a": A + [2, 2]})
        self.assertEqual(device.work([2], TIME), [(2, ("request", "a", 1, BB))])
        self.assertEqual(device.store.temp("a"), A)

    def test_the_temporary_file_of_another_winner(self):
        device = device_of({}, [peer(2, self.BEST)], temps={"a": A + C + D, "b": B})
        self.assertEqual(device.work([2], TIME), [(2, ("request", "a", 1, BB))])
        self.assertEqual((device.store.temp("a"), device.store.temp("b")), (A, B))

    def test_the_writes_in_their_order(self):
        build = lambda: device_of({"a": C, "z": A + B}, [own(has(C)), peer(2, self.BEST)])
        kept = []
        for budget, device in cut_offs(build, lambda device: device.work([2], TIME), lambda device: None):
            size = len(device.store.temp("a") or [])
            content = device.store.read("a")[0]
            row = (size, len(device.store.attic()), device.book.intents(), content, own_of(device).height)
            if row not in kept:
                kept.append(row)
        self.assertEqual(kept, [(size, 0, [], C, 1) for size in range(9)] + [
            (8, 1, [], C, 1), (8, 1, ["a"], C, 1), (0, 1, ["a"], A + B, 1), (0, 1, [], A + B, 5)])

    def test_power_cuts(self):
        build = lambda: device_of({"a": C, "z": A + B}, [own(has(C)), peer(2, self.BEST)])
        for budget, device in self.assert_cut_offs(build):
            self.assertEqual(device.store.attic(), [("a", ((1, 1),), C)])
            self.assert_own(device, self.BEST)

    def test_power_cuts_at_several_names(self):
        rows = [own(has(C)), own(has(D, name="b"), 2), own(gone(name="d", vector=((1, 3),)), 3)]
        rows += [peer(2, self.BEST, 1), peer(2, gone(name="b", vector=((2, 6),), height=3), 2)]
        rows += [peer(2, wants(B + C, name="d"), 3), peer(2, wants([9], name="e", time=3), 4), upto(2, 7)]
        build = lambda: device_of({"a": C, "b": D, "y": [9], "z": A + B}, rows)
        self.assert_cut_offs(build)


class Drawn(TakeTest):
    def made(self, name, content, number):
        return own(has(content, name=name, vector=((1, number),), maker=(1, number)), number)

    def test_a_device_that_goes_on_ends_with_the_same(self):
        # With many records before, so that the log is written anew in the midst of it.
        rng = random.Random(4)
        for _ in range(6):
            files, rows = {}, []
            for at, name in enumerate("abcd"):
                content, other = random_content(rng, 8), random_content(rng, 8)
                vector = rng.choice([((2, 5),), ((1, 9), (2, 5))])
                best = rng.choice([wants(other, name=name, vector=vector), gone(name=name, vector=vector, height=5)])
                if rng.random() < 0.7:
                    files[name] = content
                    rows.append(self.made(name, content, at + 1))
                rows.append(peer(2, best, at + 1))
                files["z" + name] = other
                rows.append(self.made("z" + name, other, at + 5))
            self.assert_cut_offs(lambda: device_of(files, rows * 2))

    def test_a_work_behind_changes_nothing(self):
        device = device_of({"a": C, "z": A + B}, [own(has(C)), peer(2, wants(A + B))])
        device.work([2], TIME)
        before, done = state(device), device.store.done()
        self.assertEqual(device.work([2], TIME), [])
        self.assertEqual((state(device), device.store.done()), (before, done))
        self.assertEqual(told_by(device.book)[4], 4)
