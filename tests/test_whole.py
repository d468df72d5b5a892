"""What is promised over the whole program, in one test each (points 14.5, 20.4 and 21.7)."""

import random
import unittest

from folderkin.entries import alike
from folderkin.oneway import OneWayWorld
from folderkin.status import lacking, states, summary
from folderkin.vectors import compare
from folderkin.worlds import are_alike
from tests.drawing import assert_entries, assert_quiet, drawn_command, drawn_rule, drawn_world, files_of, is_kept
from tests.drawing import join_all, set_budgets, thin_out


def drawn_kinds(rng):
    return [rng.choice(["both", "both", "sender", "receiver"]) for _ in range(rng.randint(1, 4))]


def drawn_one_way_command(rng, world, kinds):
    """A command, among them those that are for senders and receivers alone."""
    number = rng.randint(1, len(kinds))
    if rng.random() < 0.1 and kinds[number - 1] == "sender":
        return ("override", number, rng.randint(0, 20))
    if rng.random() < 0.2 and kinds[number - 1] == "receiver":
        return ("revert", number)
    return drawn_command(rng, world)


def is_overridden(world, kinds, entry):
    """Point 21.7 (1): a new entry that is alike lies below one that a sender made stand."""
    rows = world.history()
    tops = [row[3] for row in rows if row[1] == "override" or (row[1] == "found" and kinds[row[0] - 1] == "sender")]
    below = [row[3] for row in rows if alike(row[3], entry)]
    return any(
        one.name == top.name and compare(one.vector, top.vector) == "less" for one in below for top in tops)


class Whole(unittest.TestCase):
    def test_14_5(self):
        blocks = 0
        for seed in range(1000, 1100):
            rng = random.Random(seed)
            world = drawn_world(rng)
            for _ in range(rng.choice([20, 60, 120])):
                world.obey(drawn_command(rng, world))
                for row in world.history():
                    self.assertTrue(row[3].deleted or is_kept(world, row[3]), seed)
            set_budgets(world)
            join_all(world)
            thin_out(rng, world, world.lines.connected)
            blocks += sum(world.obey(("round", now)) for now in range(3 * len(world.devices)))
            for device in world.devices:
                self.assertTrue(are_alike(world.devices[0], device), seed)
            for row in world.history():
                self.assertTrue(row[3].deleted or is_kept(world, row[3]), seed)
            assert_quiet(self, world)
            assert_entries(self, world)
        self.assertGreater(blocks, 100)

    def test_20_4(self):
        names = 0
        for seed in range(2000, 2080):
            rng = random.Random(seed)
            world = drawn_world(rng)
            for _ in range(rng.choice([20, 60])):
                world.obey(drawn_command(rng, world))
            set_budgets(world)
            join_all(world)
            for now in range(3 * len(world.devices)):
                world.obey(("round", now))
            self.assertTrue(all(are_alike(world.devices[0], device) for device in world.devices))
            # They have asked one another since.
            world.obey(("round", 50))
            for device in world.devices:
                found = states(device)
                self.assertEqual([pair for pair in found if pair[1] != "alike"], [], seed)
                peers = [other.number for other in world.devices if other.number != device.number]
                for number in peers:
                    self.assertEqual(lacking(device, number), [], seed)
                numbers = summary(device, peers)
                self.assertEqual((numbers["alike"], numbers["lacking"]), (len(found), 0))
                names += len(found)
        self.assertGreater(names, 200)

    def hangs_together(self, world, kinds):
        """Point 21.7 (2): those that are no senders hang together, and each sender is joined to one of them."""
        others = [at + 1 for at, kind in enumerate(kinds) if kind != "sender"]
        reached = others[:1]
        for number in reached:
            reached += [other for other in others if other not in reached and world.lines.is_joined(number, other)]
        senders = [at + 1 for at, kind in enumerate(kinds) if kind == "sender"]
        return len(reached) == len(others) and all(
            any(world.lines.is_joined(sender, other) for other in others) for sender in senders)

    def assert_become_alike(self, world, kinds, seed):
        """Point 21.7 (2); returns the files of those that are no senders."""
        for now in range(6 * len(kinds)):
            world.obey(("round", now))
        others = [device for device, kind in zip(world.devices, kinds) if kind != "sender"]
        files = files_of(others[0])
        for device in others:
            self.assertTrue(are_alike(others[0], device), seed)
        for device, kind in zip(world.devices, kinds):
            if kind == "sender":
                mine = files_of(device)
                differing = [name for name in sorted(set(mine) | set(files)) if mine.get(name) != files.get(name)]
                self.assertEqual(device.differing(), differing, seed)
        assert_quiet(self, world)
        assert_entries(self, world)
        return files

    def test_21_7(self):
        words = {}
        overridden = 0
        for seed in range(3000, 3120):
            rng = random.Random(seed)
            kinds = drawn_kinds(rng)
            world = OneWayWorld(kinds, drawn_rule(rng), [[] for _ in kinds])
            for _ in range(rng.choice([20, 60, 120])):
                world.obey(drawn_one_way_command(rng, world, kinds))
                for row in world.history():
                    if not row[3].deleted and not is_kept(world, row[3]):
                        overridden += 1
                        self.assertTrue(is_overridden(world, kinds, row[3]), seed)
            if "both" not in kinds and "receiver" not in kinds:
                continue
            set_budgets(world)
            join_all(world)
            thin_out(rng, world, lambda: self.hangs_together(world, kinds))
            for number in [at + 1 for at, kind in enumerate(kinds) if kind == "receiver"]:
                world.obey(("revert", number))
            self.assert_become_alike(world, kinds, seed)
            senders = [at + 1 for at, kind in enumerate(kinds) if kind == "sender"]
            if senders:
                number = rng.choice(senders)
                mine = files_of(world.devices[number - 1])
                world.obey(("override", number, 90))
                self.assertEqual(self.assert_become_alike(world, kinds, seed), mine)
                self.assertEqual(world.devices[number - 1].differing(), [])
                self.assertEqual(files_of(world.devices[number - 1]), mine)
            for row in world.history():
                words[row[1]] = True
        self.assertGreater(overridden, 0)
        self.assertEqual([word for word in ("copy", "edit", "join", "override", "take") if word not in words], [])
