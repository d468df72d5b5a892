"""Worlds of kinds (point 21.6)."""

import random
import unittest
from copy import deepcopy

from folderkin.attic import Rule
from folderkin.content import split
from folderkin.devices import Device
from folderkin.entries import Entry, edited
from folderkin.oneway import OneWayWorld, Receiver, Sender
from folderkin.patterns import parse_patterns
from folderkin.worlds import World
from tests.drawing import drawn_command, files_of
from tests.rigs import A, B, BA, C, all_seen
from tests.samples import shown

WIDE = Rule(9, 1000)


def world_of(*kinds, rule=WIDE, patterns=None):
    return OneWayWorld(list(kinds), rule, patterns or [[] for _ in kinds])


def told(world, *commands):
    return [world.obey(command) for command in commands]


class Making(unittest.TestCase):
    def test_kinds(self):
        kinds, patterns = ["sender", "both", "receiver"], [parse_patterns("*.o"), [], []]
        world = OneWayWorld(kinds, WIDE, patterns)
        kinds.clear()
        patterns[0].clear()
        self.assertIsInstance(world, World)
        self.assertEqual([device.__class__ for device in world.devices], [Sender, Device, Receiver])
        self.assertEqual([device.number for device in world.devices], [1, 2, 3])
        self.assertEqual([device.leaves_out("x.o") for device in world.devices], [True, False, False])
        self.assertEqual((world.history(), world.user_edits(), world.lines.connected()), ([], [], True))
        self.assertTrue(all(device.rule == WIDE for device in world.devices))
        # They are made again with their kinds and patterns.
        for number in (1, 2, 3):
            told(world, ("budget", number, 0), ("edit", number, "a", (1,), 2))
        self.assertEqual([device.__class__ for device in world.devices], [Sender, Device, Receiver])
        self.assertEqual([device.leaves_out("x.o") for device in world.devices], [True, False, False])

    def test_of_both_kinds_it_is_a_world(self):
        rng = random.Random(1)
        for _ in range(20):
            count = rng.randint(1, 3)
            first = World(count, Rule(2, 50), [[] for _ in range(count)])
            second = OneWayWorld(["both"] * count, Rule(2, 50), [[] for _ in range(count)])
            for _ in range(40):
                command = drawn_command(rng, first)
                self.assertEqual(first.obey(command), second.obey(command))
            self.assertEqual(all_seen(first), all_seen(second))

    def test_new_lists(self):
        world = world_of("sender")
        told(world, ("edit", 1, "a", (1,), 2), ("scan", 1, 3), ("remove", 1, "a"))
        world.history().clear()
        world.user_edits().clear()
        self.assertEqual((len(world.history()), len(world.user_edits())), (1, 1))


class Commands(unittest.TestCase):
    def test_each_kind_in_a_round(self):
        world = world_of("sender", "both", "receiver")
        told(world, *[("edit", number, name, tuple(content), 1) for number, name, content in (
            (1, "a", A), (2, "b", B), (3, "c", C))])
        # The sender takes nothing, and what the receiver's user made is not announced.
        self.assertEqual(told(world, ("round", 2), ("round", 3)), [3, 0])
        self.assertEqual([sorted(files_of(device)) for device in world.devices], [["a"], ["a", "b"], ["a", "b", "c"]])
        self.assertEqual((world.devices[0].differing(), world.devices[2].strange()), (["b"], ["c"]))

    def test_scans_and_works(self):
        world = world_of("sender", "receiver")
        told(world, ("edit", 1, "a", tuple(A), 1), ("edit", 2, "a", tuple(B), 1))
        self.assertEqual(told(world, ("scan", 1, 2), ("scan", 2, 2)), [1, 0])
        self.assertEqual(told(world, ("ask", 2, 1), ("deliver", 2, 1, 0), ("deliver", 1, 2, 0)), [None, True, True])
        self.assertEqual(told(world, ("work", 1, 3), ("work", 2, 3)), [0, 0])
        self.assertEqual(told(world, ("remove", 2, "a"), ("work", 2, 3)), [True, 1])

    def test_override(self):
        world = world_of("sender", "both")
        told(world, ("edit", 1, "a", tuple(A), 1), ("round", 2), ("edit", 2, "a", tuple(B), 3),
            ("edit", 2, "b", tuple(C), 3))
        told(world, ("round", 4), ("edit", 1, "c", tuple(A), 5))
        rows = world.history()
        self.assertEqual(told(world, ("override", 1, 6)), [2])
        first, later = rows[0][3], rows[2][3]
        self.assertEqual(shown(world.history()[len(rows):]), shown([
            (1, "edit", None, edited(None, "c", 1, 2, False, 5, (BA,))),
            (1, "override", first, Entry("a", ((1, 3), (2, 2)), later.height + 1, (1, 3), False, 6, (BA,))),
            (1, "override", None, Entry("b", ((1, 4), (2, 3)), 2, (1, 4), True, 6, ()))]))
        self.assertEqual(told(world, ("override", 1, 7)), [0])
        told(world, ("round", 8), ("round", 9))
        self.assertEqual(files_of(world.devices[1]), {"a": A, "c": A})

    def test_override_and_a_power_cut(self):
        world = world_of("sender", "both")
        told(world, ("edit", 1, "a", tuple(A), 1), ("round", 2), ("edit", 2, "a", tuple(B), 3), ("round", 4))
        whole = deepcopy(world)
        self.assertEqual(whole.obey(("override", 1, 6)), 1)
        budget, found = 0, None
        while found is None:
            tried = deepcopy(world)
            tried.obey(("budget", 1, budget))
            found = tried.obey(("override", 1, 6))
            self.assertIs(type(tried.devices[0]), Sender)
            if found is None:
                self.assertEqual(len(tried.history()), len(world.history()))
                self.assertEqual(tried.obey(("override", 1, 6)), 1)
            self.assertEqual(shown(tried.history()), shown(whole.history()))
            budget += 1
        self.assertEqual((found, budget > 30), (1, True))

    def test_revert(self):
        world = world_of("sender", "receiver")
        told(world, ("edit", 1, "a", tuple(A), 1), ("round", 2), ("edit", 2, "a", tuple(B), 3), ("edit", 2, "b", (), 3))
        rows = world.history()
        self.assertEqual(told(world, ("round", 4), ("revert", 2), ("revert", 2)), [0, 2, 2])
        self.assertEqual(files_of(world.devices[1]), {"a": B, "b": []})
        self.assertEqual(told(world, ("work", 2, 5)), [1])
        self.assertEqual(files_of(world.devices[1]), {"a": B})
        self.assertEqual(told(world, ("round", 6), ("revert", 2)), [1, 0])
        self.assertEqual(files_of(world.devices[1]), {"a": A})
        self.assertEqual(shown(world.history()), shown(rows))

    def test_revert_needs_no_power(self):
        world = world_of("receiver")
        told(world, ("edit", 1, "a", tuple(A), 1), ("budget", 1, 0))
        self.assertEqual(told(world, ("revert", 1)), [1])
        # The work behind it does: then the reverting ends.
        self.assertEqual(told(world, ("work", 1, 2), ("work", 1, 3)), [None, 0])
        self.assertEqual(world.devices[0].strange(), ["a"])

    def test_the_words_of_setting_back(self):
        world = world_of("both", "receiver", "both")
        told(world, ("edit", 1, "a", tuple(A), 1), ("round", 2), ("edit", 1, "a", tuple(B), 3),
            ("edit", 2, "a", tuple(C), 4))
        told(world, ("round", 5), ("revert", 2), ("round", 6))
        rows = [row for row in world.history() if row[0] == 2]
        self.assertEqual([row[1] for row in rows], ["take", "take"])
        # Two users make the same, while the receiver's user changes the file.
        told(world, ("cut", 1, 3), ("edit", 1, "b", tuple(A), 7), ("edit", 3, "b", tuple(A), 7), ("cut", 2, 3),
            ("round", 8))
        told(world, ("edit", 2, "b", tuple(C), 9), ("cut", 1, 2), ("join", 2, 3), ("round", 10), ("revert", 2),
            ("round", 11))
        rows = [row for row in world.history() if row[0] == 2]
        self.assertEqual([row[1] for row in rows], ["take", "take", "take", "join"])
        self.assertEqual(rows[3][3].vector, ((1, 3), (3, 3)))
        self.assertEqual(split(world.devices[1].store.read("b")[0]), (BA,))
