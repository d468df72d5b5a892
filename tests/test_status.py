"""How far the devices are (points 20.1 to 20.3)."""

import random
import unittest
from copy import deepcopy

from folderkin.choosing import known, needed, steps_for
from folderkin.entries import alike, winner
from folderkin.scanning import agrees, own_entry
from folderkin.status import lacking, state_of, states, summary
from tests.drawing import drawn_command, drawn_world
from tests.rigs import A, B, BA, BB, BC, C, D
from tests.rigs import device_of, has, intent, own, peer, unchanged, wants
from tests.samples import gone, shown

STATES = ("alike", "edited", "joining", "needed")


class StateOf(unittest.TestCase):
    def assert_state(self, device, expected, name="a"):
        self.assertEqual(unchanged(self, state_of, device, name), expected)
        self.assertEqual(dict(states(device)).get(name, "alike"), expected)

    def test_edited(self):
        self.assert_state(device_of({"a": A}), "edited")
        self.assert_state(device_of({"a": B}, [own(has(A))]), "edited")
        self.assert_state(device_of({}, [own(has(A))]), "edited")
        self.assert_state(device_of({"a": []}, [own(gone())]), "edited")
        # An intent that fits does not matter.
        self.assert_state(device_of({"a": B}, [own(has(A)), intent(wants(B))]), "edited")

    def test_needed(self):
        self.assert_state(device_of({}, [peer(2, wants(A))]), "needed")
        self.assert_state(device_of({"a": A}, [own(has(A)), peer(2, wants(B))]), "needed")
        self.assert_state(device_of({"a": A}, [own(has(A)), peer(2, gone(height=2))]), "needed")
        self.assert_state(device_of({}, [own(gone()), peer(2, wants(B))]), "needed")

    def test_joining(self):
        self.assert_state(device_of({"a": A}, [own(has(A)), peer(2, wants(A))]), "joining")
        self.assert_state(device_of({}, [own(gone()), peer(2, gone(height=2))]), "joining")
        self.assert_state(device_of({}, [peer(2, gone())]), "joining")

    def test_alike(self):
        self.assert_state(device_of({"a": (A, 77)}, [own(has(A))]), "alike")
        self.assert_state(device_of({"a": A}, [own(has(A)), peer(2, has(A))]), "alike")
        self.assert_state(device_of({"a": A}, [own(has(A, height=3)), peer(2, has(B))]), "alike")
        self.assert_state(device_of({}, [own(gone())]), "alike")
        # Nothing is known of the name.
        self.assert_state(device_of(), "alike")

    def test_the_first_one_is_told(self):
        self.assert_state(device_of({"a": C}, [own(has(A)), peer(2, wants(B))]), "edited")
        self.assert_state(device_of({"a": C}, [own(has(A)), peer(2, wants(A))]), "edited")
        self.assert_state(device_of({"a": C}, [peer(2, wants(B))]), "edited")
        self.assert_state(device_of({"a": A}, [peer(2, gone())]), "edited")
        # Both a copy and placing are its steps.
        device = device_of({"a": A}, [own(has(A)), peer(2, wants(B))])
        self.assertEqual([step[0] for step in steps_for(device.book, "a")], ["copy", "place"])
        self.assert_state(device, "needed")


class States(unittest.TestCase):
    def test_all_names(self):
        rows = [own(has(A, name="b"), 1), own(gone(name="B"), 2), peer(2, wants(A, name="d"), 1),
            peer(3, gone(name="D"), 1)]
        device = device_of({"b": A, "z": C, "A": C}, rows, temps={"t": A})
        found = unchanged(self, states, device)
        self.assertEqual(found, [
            ("A", "edited"), ("B", "alike"), ("D", "joining"), ("b", "alike"), ("d", "needed"), ("z", "edited")])
        self.assertTrue(all(type(pair) is tuple for pair in found))

    def test_none(self):
        self.assertEqual(states(device_of()), [])
        # Numbers of peers and what lies in the attic are no names.
        self.assertEqual(states(device_of({}, (), [("a", (), A)])), [])

    def test_left_out_names(self):
        rows = [own(has(A, name="a.o"), 1), peer(2, wants(A, name="b.o~1-1")), peer(2, wants(A, name="c"), 2)]
        device = device_of({"x.o": A, "x.o~1-1": A, "y": A}, rows, patterns="*.o")
        self.assertEqual(states(device), [("c", "needed"), ("y", "edited")])

    def test_new_lists(self):
        device = device_of({"a": A})
        states(device).clear()
        self.assertEqual(states(device), [("a", "edited")])

    def test_drawn_ones(self):
        rng = random.Random(1)
        seen = {}
        for _ in range(150):
            world = drawn_world(rng)
            for _ in range(rng.randint(10, 60)):
                world.obey(drawn_command(rng, world, False))
            if rng.random() < 0.7:
                self.tell_all(world)
            for device in world.devices:
                names = set(device.store.names()) | set(device.book.all_names())
                found = states(device)
                self.assertEqual([name for name, _ in found], sorted(names))
                for name, told in found:
                    seen[told] = True
                    self.assertEqual(told, self.plain_state(device, name))
        self.assertEqual(sorted(seen), sorted(STATES))

    def tell_all(self, world):
        """Each device scans, and hears the entries of all others."""
        for device in world.devices:
            device.scan(9)
        for device in world.devices:
            for other in world.devices:
                if other is not device:
                    device.hear(other.number, other.hear(device.number, device.ask(other.number))[0])

    def plain_state(self, device, name):
        """Point 20.2."""
        if not agrees(device.store, own_entry(device.book, name), name):
            return "edited"
        if name not in needed(device.book):
            return "alike"
        return "needed" if steps_for(device.book, name)[-1][0] in ("place", "remove") else "joining"


class Lacking(unittest.TestCase):
    def assert_lacking(self, device, expected, number=2):
        found = unchanged(self, lacking, device, number)
        self.assertEqual(found, expected)
        for pair in found:
            self.assertEqual((type(pair), type(pair[1])), (tuple, tuple))

    def test_never_announced(self):
        self.assert_lacking(device_of({"a": A}, [own(has(A + B))]), [("a", (BA, BB))])
        self.assert_lacking(device_of({"a": A}, [own(has(A)), peer(3, wants(B + C))]), [("a", (BB, BC))])
        self.assert_lacking(device_of({}, [own(has([]))]), [("a", ())])

    def test_announced_otherwise(self):
        self.assert_lacking(device_of({}, [own(has(A + B, height=3)), peer(2, has(C))]), [("a", (BA, BB))])
        self.assert_lacking(device_of({}, [own(has(A + B, height=3)), peer(2, has(B))]), [("a", (BA,))])
        self.assert_lacking(device_of({}, [own(has(A, height=3)), peer(2, gone())]), [("a", (BA,))])

    def test_announced_alike(self):
        self.assert_lacking(device_of({}, [own(has(A)), peer(2, wants(A))]), [])
        # What it wants itself is what the peer announced.
        self.assert_lacking(device_of({}, [own(has(A)), peer(2, wants(B))]), [])
        self.assert_lacking(device_of({}, [own(has(A)), peer(2, wants(B))]), [("a", (BB,))], 3)

    def test_a_deleted_one_is_wanted(self):
        best = gone(height=3)
        self.assert_lacking(device_of({}, [own(best), peer(2, has(A))]), [("a", ())])
        self.assert_lacking(device_of({}, [own(best), peer(2, gone())]), [])
        self.assert_lacking(device_of({}, [own(best)]), [])
        self.assert_lacking(device_of({"a": A}, [own(has(A)), peer(3, best)]), [])
        self.assert_lacking(device_of({"a": A}, [own(has(A)), peer(3, best), peer(2, has(A))]), [("a", ())])

    def test_blocks_of_another_entry_of_the_peer(self):
        rows = [own(has(A + B + C)), peer(2, has(B, name="z")), peer(3, has(C, name="y"))]
        self.assert_lacking(device_of({}, rows), [("a", (BA, BC)), ("y", ())])
        # Also of one that it announced for this name, and of one that is left out here.
        rows = [own(has(A + B, height=3)), peer(2, has(B)), peer(2, has(A, name="x.o"), 2)]
        self.assert_lacking(device_of({}, rows, patterns="*.o"), [("a", ())])

    def test_blocks_of_a_name_before(self):
        rows = [own(has(B + A, name="b"), 1), own(has(A + C), 2), own(has(C + D + B, name="c"), 3)]
        self.assert_lacking(device_of({}, rows), [("a", (BA, BC)), ("b", (BB,)), ("c", (wants(D).blocks[0],))])

    def test_a_block_that_stands_twice(self):
        self.assert_lacking(device_of({}, [own(has(B + A + B + A + C))]), [("a", (BB, BA, BC))])

    def test_the_own_files_do_not_count(self):
        # What a user changed is not wanted before it is scanned.
        self.assert_lacking(device_of({"a": C, "x": D}, [own(has(A))]), [("a", (BA,))])

    def test_left_out_names(self):
        rows = [own(has(A, name="a.o"), 1), own(has(A, name="b"), 2), peer(3, has(B, name="c.o~1-1"))]
        self.assert_lacking(device_of({}, rows, patterns="*.o"), [("b", (BA,))])

    def test_new_lists(self):
        device = device_of({}, [own(has(A))])
        lacking(device, 2).clear()
        self.assert_lacking(device, [("a", (BA,))])

    def test_drawn_ones(self):
        rng = random.Random(2)
        rows = 0
        for _ in range(40):
            world = drawn_world(rng)
            for _ in range(60):
                world.obey(drawn_command(rng, world))
            for device in world.devices:
                for number in range(1, 5):
                    expected = self.plain_lacking(device, number)
                    rows += len(expected)
                    self.assertEqual(lacking(device, number), expected)
        self.assertGreater(rows, 100)

    def plain_lacking(self, device, number):
        """Point 20.3."""
        told = {name: device.book.peer(number, name)[0] for name in device.book.peer_names(number)}
        there = [block for value in told.values() for block in value.blocks]
        rows = []
        for name in device.book.all_names():
            best, other = winner(known(device.book, name)), told.get(name)
            if best.deleted and (other is None or other.deleted):
                continue
            if not best.deleted and other is not None and alike(other, best):
                continue
            rows.append((name, tuple(dict.fromkeys(block for block in best.blocks if block not in there))))
            there += best.blocks
        return rows


class Summary(unittest.TestCase):
    def test_nothing(self):
        expected = {"files": 0, "bytes": 0, "edited": 0, "needed": 0, "joining": 0, "alike": 0, "lacking": 0}
        self.assertEqual(summary(device_of(), []), expected)
        self.assertEqual(summary(device_of(), [2, 3]), expected)

    def test_numbers(self):
        rows = [own(has(A, name="b"), 1), own(gone(name="B"), 2), peer(2, wants(A + B, name="d"), 1),
                peer(3, gone(name="D"), 1), own(has(C, name="x.o"), 3)]
        device = device_of({"b": A, "z": C + [1], "A": [], "x.o": C, "y.o~1-1": D}, rows, patterns="*.o")
        expected = {"files": 3, "bytes": 9, "edited": 2, "needed": 1, "joining": 1, "alike": 2, "lacking": 0}
        self.assertEqual(unchanged(self, summary, device, []), expected)
        for peers, many in (([2], 0), ([3], 2), ([4], 2), ([2, 3, 4], 4)):
            self.assertEqual(unchanged(self, summary, device, peers), {**expected, "lacking": many})

    def test_new_dicts(self):
        device = device_of({"a": A})
        summary(device, [2]).clear()
        self.assertEqual(len(summary(device, [2])), 7)

    def test_as_the_other_functions_tell(self):
        rng = random.Random(3)
        for _ in range(20):
            world = drawn_world(rng)
            for _ in range(50):
                world.obey(drawn_command(rng, world))
            before = deepcopy(shown(world.history()))
            for device in world.devices:
                peers = [other.number for other in world.devices if other.number != device.number]
                found = summary(device, peers)
                told = [state for _, state in states(device)]
                self.assertEqual([found[state] for state in STATES], [told.count(state) for state in STATES])
                self.assertEqual(found["files"], len(device.store.names()))
                self.assertEqual(found["bytes"], sum(len(device.store.read(name)[0]) for name in device.store.names()))
                self.assertEqual(
                    found["lacking"], sum(len(blocks) for number in peers for _, blocks in lacking(device, number)))
            self.assertEqual(shown(world.history()), before)
