"""What is promised over whole histories of drawn commands (points 04.6 and 14.5)."""

import random
import unittest
from unittest import mock

from folderkin.devices import Device
from folderkin.judging import fates, judge_fates
from folderkin.pulling import Pull, missing, near_places
from folderkin.worlds import World, are_alike
from tests.drawing import assert_entries, assert_quiet, drawn_command, drawn_rule, drawn_world, is_kept, join_all
from tests.drawing import set_budgets, thin_out


class Kept(unittest.TestCase):
    def assert_kept(self, world, seed):
        for row in world.history():
            self.assertTrue(row[3].deleted or is_kept(world, row[3]), seed)

    def test_nothing_is_lost(self):
        words, told = {}, {}
        for seed in range(120):
            rng = random.Random(seed)
            world = drawn_world(rng)
            for _ in range(rng.choice([20, 60, 150])):
                command = drawn_command(rng, world)
                found = world.obey(command)
                told.setdefault(command[0], {})[str(found)] = True
                self.assert_kept(world, seed)
            paper = fates(world)
            self.assertNotIn(("lost",), paper)
            self.assertTrue(judge_fates(world, paper))
            assert_entries(self, world)
            for row in world.history():
                words[row[1]] = words.get(row[1], 0) + 1
        self.assertEqual(sorted(words), ["copy", "edit", "found", "join", "take"])
        # Each kind of command was obeyed, and told each kind of value.
        for word in ("deliver", "drop", "double", "swap", "remove", "move"):
            self.assertEqual(sorted(told[word]), ["False", "True"], word)
        for word in ("edit", "ask", "cut", "join", "budget"):
            self.assertEqual(sorted(told[word]), ["None"], word)
        for word in ("scan", "work"):
            self.assertIn("None", told[word])
            self.assertGreater(len(told[word]), 2)
        self.assertGreater(len(told["round"]), 3)

    def test_power_cuts_at_any_write(self):
        # Each command is obeyed with a small budget of each device.
        for seed in range(30):
            rng = random.Random(seed)
            world = drawn_world(rng)
            for _ in range(60):
                set_budgets(world, rng.choice([rng.randint(0, 20), rng.randint(0, 200)]))
                world.obey(drawn_command(rng, world, False))
                self.assert_kept(world, seed)
            assert_entries(self, world)


class Alike(unittest.TestCase):
    def drawn(self, seed):
        """A world behind drawn commands, in which joined lines join all devices."""
        rng = random.Random(seed)
        world = drawn_world(rng)
        for _ in range(rng.choice([10, 40, 120])):
            world.obey(drawn_command(rng, world))
        set_budgets(world)
        join_all(world)
        thin_out(rng, world, world.lines.connected)
        return world

    def test_all_devices_become_alike(self):
        for seed in range(150):
            world = self.drawn(seed)
            for now in range(3 * len(world.devices)):
                world.obey(("round", now))
            for device in world.devices:
                self.assertTrue(are_alike(world.devices[0], device), seed)
            assert_quiet(self, world)
            assert_entries(self, world)

    def test_after_a_power_cut_in_a_round(self):
        for seed in range(40):
            world = self.drawn(seed)
            rng = random.Random(seed)
            for number in range(1, len(world.devices) + 1):
                world.obey(("budget", number, rng.randint(0, 200)))
            world.obey(("round", 5))
            set_budgets(world)
            for now in range(3 * len(world.devices)):
                world.obey(("round", now))
            for device in world.devices:
                self.assertTrue(are_alike(world.devices[0], device), seed)
            assert_quiet(self, world)

    def test_nine_devices_in_a_row(self):
        rng = random.Random(9)
        world = World(9, drawn_rule(rng), [[] for _ in range(9)])
        for first in range(1, 10):
            for second in range(first + 2, 10):
                world.obey(("cut", first, second))
        for _ in range(80):
            command = drawn_command(rng, world)
            if command[0] != "join":
                world.obey(command)
        for number in range(1, 9):
            world.obey(("join", number, number + 1))
        set_budgets(world)
        for now in range(27):
            world.obey(("round", now))
        for device in world.devices:
            self.assertTrue(are_alike(world.devices[0], device))
        assert_quiet(self, world)

    def test_blocks_go_over_lines_only_if_they_are_missing(self):
        """Each block that is asked for in a round was missing when its name was taken, and near nowhere."""
        advance, hear = Pull.advance, Device.hear
        asked, given = {}, []

        def watched_advance(pull):
            block = advance(pull)
            if block is not None:
                store, entry = pull._store, pull._entry
                self.assertNotIn(block, near_places(store, entry))
                self.assertEqual(block, missing(store, entry)[0])
                asked[(store, entry.name, block)] = True
            return block

        def watched_hear(device, peer, letter):
            if letter[0] == "block":
                given.append(letter[1])
                self.assertTrue([key for key in asked if key[0] is device.store and key[2] == letter[1]])
            return hear(device, peer, letter)

        for seed in range(60):
            world = self.drawn(seed)
            with mock.patch.object(Pull, "advance", watched_advance), mock.patch.object(Device, "hear", watched_hear):
                for now in range(3 * len(world.devices)):
                    asked.clear()
                    given.clear()
                    self.assertEqual(world.obey(("round", now)), len(given))
