"""Devices: what they are made of, and how they answer letters (points 12.1 to 12.3)."""

import random
import unittest

from folderkin.attic import Rule
from folderkin.content import split
from folderkin.devices import Device
from folderkin.errors import PowerCut
from folderkin.letters import decode, encode
from folderkin.patterns import parse_patterns
from folderkin.store import Store, from_durable
from tests.records import told_by
from tests.rigs import A, B, BA, BB, BC, BD, C, D
from tests.rigs import device_of, gives, has, intent, own, peer, state, store_of, unchanged, upto, wants
from tests.samples import all_of, entry, gone, parts_of, random_content, shown


class Making(unittest.TestCase):
    def test_an_empty_store(self):
        store, rule, patterns = Store({}, []), Rule(2, 5), parse_patterns("*.o\n!b")
        device = Device(3, store, rule, patterns)
        self.assertIs(device.store, store)
        self.assertEqual((device.number, device.rule, device.patterns), (3, Rule(2, 5), parse_patterns("*.o\n!b")))
        self.assertEqual((device.book.names(), device.book.next_number(), device.needed()), ([], 1, []))
        self.assertEqual((device.work([], 5), device.scan(5), store.done()), ([], [], 0))

    def test_a_store_with_files_and_a_log(self):
        rows = [own(has(A), 3), peer(2, wants(B), 4), upto(2, 9), intent(wants(B), 4)]
        device = device_of({"a": A, "b": C}, rows, [("c", ((1, 2),), D)], {"a": [2]}, number=1)
        self.assertEqual(device.store.done(), 0)
        self.assertEqual(parts_of(device.book.own("a")[0]), parts_of(has(A)))
        self.assertEqual((device.book.next_number(), device.book.upto(2), device.needed()), (4, 9, ["a"]))
        self.assertEqual(device.store.attic(), [("c", ((1, 2),), D)])
        self.assertEqual(parts_of(device.book.intent("a")), parts_of(wants(B)))

    def test_the_book_is_opened(self):
        # Bytes behind the last whole record are written away, which may take power.
        store = store_of({}, [own(has(A), 3)])
        store.log_append([1, 2, 3])
        kept = store.durable()
        device = Device(1, store, Rule(1, 1), [])
        self.assertEqual(device.store.log(), device.book.needed())
        cut = from_durable(kept)
        cut.set_budget(2)
        self.assertRaises(PowerCut, Device, 1, cut, Rule(1, 1), [])

    def test_patterns_are_copied(self):
        patterns = parse_patterns("*.o")
        device = Device(1, Store({"a.o": (A, 1)}, []), Rule(1, 1), patterns)
        patterns.clear()
        self.assertEqual(device.patterns, parse_patterns("*.o"))
        self.assertTrue(device.leaves_out("a.o"))

    def test_only_what_the_store_keeps_stays(self):
        device = device_of({}, [peer(2, wants(A + B)), upto(2, 1)])
        self.assertEqual(device.work([2], 9), [(2, ("request", "a", 0, BA))])
        device.hear(2, ("refused", BA))
        again = Device(1, from_durable(device.store.durable()), device.rule, [])
        # What was being brought together and what was refused is gone.
        self.assertEqual(again.hear(2, gives(BA)), [])
        self.assertEqual(again.store.temp_names(), [])
        self.assertEqual(again.work([2], 9), [(2, ("request", "a", 0, BA))])


class LeavingOut(unittest.TestCase):
    def test_the_root_counts(self):
        device = device_of(patterns="!b.o\n*.o\n**~**\nc?")
        for name in ("a.o", "a.o~1-2", ".o", "cc", "cc~9-1"):
            self.assertIs(device.leaves_out(name), True, name)
        for name in ("b.o", "b.o~1-2", "a", "a~b.o", "a~b", "c", "c~1", "x/a.o"):
            self.assertIs(device.leaves_out(name), False, name)

    def test_an_empty_root(self):
        self.assertIs(device_of(patterns="*").leaves_out("~1-2"), True)
        self.assertIs(device_of(patterns="?*").leaves_out("~1-2"), False)
        self.assertIs(device_of().leaves_out("~1-2"), False)

    def test_neither_scanned_nor_needed(self):
        rows = [own(has(A, name="x.o"), 1), peer(2, wants(B, name="a.o")), peer(2, wants(B, name="a.o~2-4"), 2),
                peer(2, wants(B), 3), own(has(A, name="y.o~1-1"), 2)]
        device = device_of({"b.o": A, "b.o~1-9": A, "c": C, "x.o": D}, rows, patterns="*.o")
        self.assertEqual(device.needed(), ["a"])
        self.assertEqual([value.name for value in device.scan(7)], ["c"])
        self.assertEqual(device.scan(8), [])
        self.assertEqual(device.work([2], 9), [(2, ("request", "a", 0, BB))])
        self.assertEqual(device.book.names(), ["c", "x.o", "y.o~1-1"])
        self.assertEqual(device.store.read("x.o"), (D, 1))

    def test_a_negated_pattern_keeps(self):
        rows = [peer(2, wants(B, name=name), at + 1) for at, name in enumerate(["a.o", "b.o", "b.o~1-1"])]
        device = device_of({"b.o~3-3": A}, rows, patterns="!b.*\n*.o")
        self.assertEqual(device.needed(), ["b.o", "b.o~1-1"])
        self.assertEqual([value.name for value in device.scan(7)], ["b.o~3-3"])


class Scanning(unittest.TestCase):
    def test_names_of_files_and_of_own_entries_ascend(self):
        rows = [own(has(A, name="b"), 1), own(has(B, name="B"), 2), own(gone(name="d"), 3)]
        device = device_of({"a": (A, 4), "B": (B, 5), "~": ([], 6), "d": (C, 7)}, rows)
        found = device.scan(9)
        self.assertEqual([(value.name, value.deleted, value.time) for value in found], [
            ("a", False, 4), ("b", True, 9), ("d", False, 7), ("~", False, 6)])
        self.assertEqual([value.maker for value in found], [(1, 4), (1, 5), (1, 6), (1, 7)])
        self.assertEqual([device.book.own(value.name) for value in found], [
            (value, 4 + at) for at, value in enumerate(found)])
        self.assertEqual([row[1] for row in device.changes.rows()], ["edit"] * 4)

    def test_an_intent(self):
        device = device_of({"a": B}, [own(has(A), 1), intent(wants(B), 2)])
        self.assertEqual(shown(device.scan(9)), shown([wants(B)]))
        self.assertEqual(shown(device.changes.rows()), shown([(1, "take", has(A), wants(B))]))

    def test_new_lists(self):
        device = device_of({"a": A})
        found = device.scan(9)
        found.clear()
        self.assertEqual(device.book.names(), ["a"])
        device = device_of({}, [peer(2, wants(B))])
        device.needed().clear()
        self.assertEqual(device.needed(), ["a"])

    def test_power_cuts(self):
        build = lambda: device_of({"a": A, "b": B}, [own(has(C, name="c"))])
        whole = build()
        whole.scan(9)
        for budget in range(whole.store.done()):
            device = build()
            device.store.set_budget(budget)
            self.assertRaises(PowerCut, device.scan, 9)
            again = Device(1, from_durable(device.store.durable()), device.rule, [])
            again.scan(9)
            self.assertEqual(told_by(again.book), told_by(whole.book))


class Asking(unittest.TestCase):
    def test_ask(self):
        device = device_of({}, [upto(2, 7), peer(3, wants(A), 8)])
        self.assertEqual([device.ask(number) for number in (2, 3, 4)], [("ask", 7), ("ask", 0), ("ask", 0)])

    def test_hello(self):
        device = device_of({}, [upto(2, 7)])
        before = state(device)
        self.assertEqual(device.hear(2, ("hello", 2)), [("ask", 7)])
        self.assertEqual(device.hear(3, ("hello", 3)), [("ask", 0)])
        self.assertEqual(state(device), before)

    def test_asked(self):
        first, second, third = has(A), gone(name="b", vector=((1, 4),)), has(C, name="c", vector=((1, 6),))
        device = device_of({"a": A}, [own(first, 3), own(second, 4), own(third, 6), peer(2, wants(B), 9)])
        before = state(device)
        for behind, pairs in (
                (0, [(first, 3), (second, 4), (third, 6)]), (2, [(first, 3), (second, 4), (third, 6)]),
                (3, [(second, 4), (third, 6)]), (4, [(third, 6)]), (5, [(third, 6)]), (6, []), (7, [])):
            (letter,) = unchanged(self, device.hear, 2, ("ask", behind))
            self.assertEqual(shown(letter), shown(("entries", behind, 6, tuple(pairs))))
            self.assertEqual(decode(encode(letter)), letter)
        self.assertEqual(state(device), before)

    def test_asked_for_nothing(self):
        self.assertEqual(device_of().hear(4, ("ask", 0)), [("entries", 0, 0, ())])
        self.assertEqual(device_of({"a": A}).hear(4, ("ask", 5)), [("entries", 5, 0, ())])

    def test_the_letters_are_new(self):
        device = device_of({}, [upto(2, 7)])
        device.hear(2, ("hello", 2)).clear()
        self.assertEqual(device.hear(2, ("hello", 2)), [("ask", 7)])


class Learning(unittest.TestCase):
    def heard(self, *rows, behind, most, pairs):
        device = device_of({}, rows)
        letter = ("entries", behind, most, tuple(pairs))
        self.assertEqual(unchanged(self, device.hear, 2, letter), [])
        return device

    def test_behind(self):
        for behind, known in ((0, 9), (4, 9), (5, 9), (6, 5), (9, 5)):
            device = self.heard(upto(2, 5), behind=behind, most=9, pairs=[(wants(A), 7)])
            self.assertEqual((device.book.upto(2), device.book.peer("a", 2)), (known, None))
            # The pairs are put in each case.
            self.assertEqual(shown(device.book.peer(2, "a")), shown((wants(A), 7)))

    def test_behind_with_nothing_known(self):
        self.assertEqual(self.heard(behind=0, most=3, pairs=[]).book.upto(2), 3)
        self.assertEqual(self.heard(behind=1, most=3, pairs=[]).book.upto(2), 0)
        self.assertEqual(self.heard(upto(3, 5), behind=1, most=3, pairs=[]).book.upto(2), 0)

    def test_a_lesser_number_is_not_put(self):
        device = self.heard(upto(2, 5), behind=0, most=4, pairs=[])
        self.assertEqual((device.book.upto(2), device.store.done()), (5, 0))

    def test_no_pairs(self):
        device = self.heard(upto(2, 5), behind=5, most=5, pairs=[])
        self.assertEqual((device.store.done(), device.book.peer_names(2)), (0, []))
        self.assertEqual(self.heard(upto(2, 5), behind=5, most=6, pairs=[]).book.upto(2), 6)

    def test_known_entries(self):
        for number, told in ((3, wants(B)), (4, wants(B)), (5, wants(C))):
            device = self.heard(peer(2, wants(B), 4), behind=0, most=9, pairs=[(wants(C), number)])
            self.assertEqual(shown(device.book.peer(2, "a")), shown((told, max(4, number))))

    def test_several_pairs(self):
        pairs = [(wants(A), 1), (wants(B, name="b"), 2), (wants(C), 5), (wants(D), 4)]
        device = self.heard(behind=0, most=5, pairs=pairs)
        self.assertEqual(device.needed(), ["a", "b"])
        self.assertEqual(shown(device.book.peer(2, "a")), shown((wants(C), 5)))
        self.assertEqual(device.book.peer_devices(), [2])

    def test_power_cuts(self):
        letter = ("entries", 0, 5, ((wants(A), 1), (wants(B, name="b"), 2)))
        whole = device_of()
        whole.hear(2, letter)
        for budget in range(whole.store.done()):
            device = device_of()
            device.store.set_budget(budget)
            self.assertRaises(PowerCut, device.hear, 2, letter)
            again = Device(1, from_durable(device.store.durable()), device.rule, [])
            # The number is put behind the pairs, so the peer is asked for them again.
            self.assertEqual(again.ask(2), ("ask", 0))
            again.hear(2, letter)
            self.assertEqual(told_by(again.book), told_by(whole.book))


class Answering(unittest.TestCase):
    def asked(self, device, block):
        before = state(device)
        (answer,) = unchanged(self, device.hear, 2, ("request", "a", 0, block))
        self.assertEqual(state(device), before)
        self.assertEqual(decode(encode(answer)), answer)
        return answer

    def test_a_block_of_a_file(self):
        device = device_of({"z": A + B + [7, 9]})
        self.assertEqual(self.asked(device, BA), ("block", BA, (1, 1, 1, 1)))
        self.assertEqual(self.asked(device, BB), ("block", BB, (2, 2, 2, 2)))
        self.assertEqual(self.asked(device, split([7, 9])[0]), ("block", split([7, 9])[0], (7, 9)))

    def test_a_block_of_the_attic_alone(self):
        device = device_of({"z": A}, (), [("q", (), C), ("q", (), [5] + C)])
        self.assertEqual(self.asked(device, BC), ("block", BC, (3, 3, 3, 3)))
        self.assertEqual(self.asked(device, split([3])[0]), ("block", split([3])[0], (3,)))

    def test_nothing_has_it(self):
        device = device_of({"z": A}, [own(has(B))], (), {"a": C})
        for block in (BB, BC, BD, split([1])[0], split([1, 1, 1])[0], split([0])[0]):
            self.assertEqual(self.asked(device, block), ("refused", block))

    def test_it_lies_across_two_blocks(self):
        device = device_of({"z": [1, 1, 2, 2, 2, 2, 3, 3]}, (), [("q", (), [0] + B)])
        self.assertEqual(self.asked(device, BB), ("refused", BB))

    def test_left_out_files_count_too(self):
        self.assertEqual(self.asked(device_of({"z": A}, patterns="z"), BA), gives(BA))


class Given(unittest.TestCase):
    def wanting(self, *pairs, files=()):
        """A device that brings contents of the peers 2, 3, .. together."""
        rows = [peer(2 + at, wants(content, name=name)) for at, (name, content) in enumerate(pairs)]
        device = device_of(files, rows)
        device.work([2, 3, 4], 9)
        return device

    def test_what_was_asked_for(self):
        device = self.wanting(("a", A + B))
        self.assertEqual(unchanged(self, device.hear, 2, gives(BA)), [])
        self.assertEqual((device.store.temp("a"), device.store.names()), (A, []))
        # Then the next one must come; the first one does nothing any more.
        before = all_of(device.store)
        device.hear(2, gives(BA))
        self.assertEqual(all_of(device.store), before)
        device.hear(3, gives(BB))
        self.assertEqual(device.store.temp("a"), A + B)
        device.hear(3, gives(BB))
        self.assertEqual(device.store.temp("a"), A + B)

    def test_two_contents_at_once(self):
        device = self.wanting(("a", A), ("b", A + B), ("c", B + A))
        device.hear(2, gives(BA))
        self.assertEqual([device.store.temp(name) for name in "abc"], [A, A, None])
        device.hear(9, gives(BB))
        self.assertEqual([device.store.temp(name) for name in "abc"], [A, A + B, B])

    def test_they_take_it_by_ascending_names(self):
        device = self.wanting(("b", A), ("a", A))
        device.store.set_budget(4)
        self.assertRaises(PowerCut, device.hear, 2, gives(BA))
        self.assertEqual([device.store.temp(name) for name in "ab"], [A, None])

    def test_one_that_did_not_ask(self):
        # Nothing is brought together before the first work.
        device = device_of({}, [peer(2, wants(A))])
        self.assertEqual(device.hear(2, gives(BA)), [])
        self.assertEqual(device.store.temp_names(), [])
        self.assertEqual(self.wanting(("a", A)).hear(2, gives(BB)), [])
        device = device_of({"a": A}, [own(has(A))])
        device.hear(2, gives(BB))
        self.assertEqual((device.store.temp_names(), device.store.done()), ([], 0))

    def test_no_peer_was_asked_for_it(self):
        # It is being brought together even if there was no peer to ask.
        device = device_of({}, [peer(2, wants(A))])
        self.assertEqual(device.work([], 9), [])
        device.hear(7, gives(BA))
        self.assertEqual(device.store.temp("a"), A)

    def test_wrong_bytes(self):
        device = self.wanting(("a", A))
        before = all_of(device.store)
        for data in ((1, 1, 1, 2), (1, 1, 1), (2, 1, 1, 1), (1,)):
            self.assertEqual(device.hear(2, ("block", BA, data)), [])
            self.assertEqual(device.hear(2, ("block", BB, (1, 1, 1, 1))), [])
        self.assertEqual(all_of(device.store), before)

    def test_not_behind_the_last_step(self):
        device = self.wanting(("a", A))
        device.hear(2, gives(BA))
        self.assertEqual(device.work([2], 9), [])
        self.assertEqual(device.store.read("a"), (A, 20))
        device.hear(2, gives(BA))
        self.assertEqual(device.store.temp_names(), [])

    def test_until_another_winner_is_brought_together(self):
        device = self.wanting(("a", A + B))
        device.hear(2, gives(BA))
        higher = wants(C + D, height=6, vector=((2, 6),), maker=(2, 6))
        device.hear(2, ("entries", 0, 6, ((higher, 6),)))
        # The old one goes on until the new one is begun.
        device.hear(2, gives(BB))
        self.assertEqual(device.store.temp("a"), A + B)
        self.assertEqual(device.work([2], 9), [(2, ("request", "a", 0, BC))])
        device.hear(2, gives(BA))
        self.assertIsNone(device.store.temp("a"))
        device.hear(2, gives(BC))
        self.assertEqual(device.store.temp("a"), C)

    def test_until_a_record(self):
        # The own entry becomes alike to the winner in the meantime: then the winner is recorded.
        device = self.wanting(("a", A + B))
        device.store.write("a", A + B, 3)
        self.assertEqual(device.work([2], 9), [])
        self.assertEqual(shown(device.book.own("a")[0].blocks), (BA, BB))
        device.hear(2, gives(BA))
        self.assertEqual(device.store.temp_names(), [])

    def test_it_goes_on_if_the_name_is_not_needed_any_more(self):
        # Neither step 3 nor step 4 was done: the content of the user is above the winner.
        device = device_of({"a": (D, 90)}, [own(has(D, height=6)), peer(2, wants(A, height=7))])
        device.work([2], 9)
        device.store.write("a", C, 91)
        self.assertEqual((device.work([2], 9), device.needed()), ([], []))
        device.hear(2, gives(BA))
        self.assertEqual(device.store.temp("a"), A)


class Refused(unittest.TestCase):
    def test_the_peer_is_not_asked_again(self):
        device = device_of({}, [peer(2, wants(A)), peer(3, wants(A)), peer(3, wants(A, name="b"))])
        self.assertEqual(device.work([2, 3], 9), [(2, ("request", "a", 0, BA))])
        self.assertEqual(device.hear(2, ("refused", BA)), [])
        self.assertEqual(device.work([2, 3], 9), [(3, ("request", "a", 0, BA))])
        self.assertEqual(device.hear(3, ("refused", BA)), [])
        self.assertEqual(device.work([2, 3], 9), [])
        # The peer 3 tells entries; that of the peer 2 stays refused.
        device.hear(3, ("entries", 0, 0, ()))
        self.assertEqual(device.work([2, 3], 9), [(3, ("request", "a", 0, BA))])
        device.hear(2, ("entries", 9, 9, ()))
        self.assertEqual(device.work([2, 3], 9), [(2, ("request", "a", 0, BA))])

    def test_this_block_alone(self):
        device = device_of({}, [peer(2, wants(A + B)), peer(2, wants(C, name="b"))])
        device.hear(2, ("refused", BB))
        expected = [(2, ("request", "a", 0, BA)), (2, ("request", "b", 0, BC))]
        self.assertEqual(device.work([2], 9), expected)
        device.hear(2, gives(BA))
        self.assertEqual(device.work([2], 9), expected[1:])

    def test_for_each_name(self):
        device = device_of({}, [peer(2, wants(A)), peer(2, wants(A, name="b"))])
        device.hear(2, ("refused", BA))
        self.assertEqual(device.work([2], 9), [])

    def test_other_letters_do_not_let_ask_again(self):
        device = device_of({}, [peer(2, wants(A))])
        device.hear(2, ("refused", BA))
        for letter in (("hello", 2), ("ask", 0), ("request", "a", 0, BB), gives(BB), ("refused", BB)):
            device.hear(2, letter)
        device.hear(3, ("entries", 0, 1, ()))
        self.assertEqual(device.work([2], 9), [])

    def test_nothing_is_written(self):
        device = device_of({}, [peer(2, wants(A))])
        before = state(device)
        device.hear(2, ("refused", BA))
        self.assertEqual((state(device), device.store.done()), (before, 0))


class Talking(unittest.TestCase):
    def test_two_devices(self):
        rng = random.Random(1)
        for _ in range(20):
            content = random_content(rng)
            first, second = device_of({"a": (content, 5)}), device_of(number=2)
            first.scan(1)
            for answer in first.hear(2, second.ask(1)):
                second.hear(1, answer)
            for _ in range(40):
                for _, letter in second.work([1], 2):
                    for answer in first.hear(2, letter):
                        second.hear(1, answer)
            self.assertEqual(second.store.read("a"), (content, 5))
            self.assertEqual(second.book.own("a")[0], first.book.own("a")[0])
            self.assertEqual(second.store.temp_names(), [])
