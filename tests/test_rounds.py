"""Rounds, and devices that are alike (points 14.3 and 14.4)."""

import random
import unittest
from copy import deepcopy

from folderkin.attic import Rule
from folderkin.entries import Entry, edited
from folderkin.errors import PowerCut
from folderkin.patterns import parse_patterns
from folderkin.worlds import World, are_alike
from tests.drawing import drawn_command, drawn_world, files_of, join_all
from tests.records import told_by
from tests.rigs import A, B, BA, C, D
from tests.rigs import device_of, has, own, peer, wants
from tests.samples import all_of, shown

WIDE = Rule(9, 1000)
LONG = tuple(A + B + C + A + D)


def world_of(count, cuts=(), rule=WIDE, patterns=None):
    world = World(count, rule, patterns or [[] for _ in range(count)])
    for first, second in cuts:
        world.obey(("cut", first, second))
    return world


def row_of(count):
    """A world whose devices stand in a row."""
    return world_of(count, [(a, b) for a in range(1, count + 1) for b in range(a + 2, count + 1)])


def all_alike(world):
    return all(are_alike(world.devices[0], device) for device in world.devices)


def plain_round(world, now):
    """Point 14.3, sentence by sentence, for devices whose power does not end."""
    devices, blocks = world.devices, 0
    for device in devices:
        device.scan(now)
    numbers = range(1, len(devices) + 1)
    joined = [(a, b) for a in numbers for b in numbers if a < b and world.lines.is_joined(a, b)]
    for pair in joined:
        for asking, asked in (pair, pair[::-1]):
            for answer in devices[asked - 1].hear(asking, devices[asking - 1].ask(asked)):
                devices[asking - 1].hear(asked, answer)
    for device in devices:
        peers = [sum(pair) - device.number for pair in joined if device.number in pair]
        while letters := device.work(peers, now):
            for number, letter in letters:
                (answer,) = devices[number - 1].hear(device.number, letter)
                blocks += answer[0] == "block"
                device.hear(number, answer)
    return blocks


class Rounds(unittest.TestCase):
    def test_one_device(self):
        world = world_of(1)
        self.assertEqual(world.obey(("round", 1)), 0)
        world.obey(("edit", 1, "a", (1, 2), 3))
        self.assertEqual(world.obey(("round", 4)), 0)
        self.assertEqual(shown(world.devices[0].book.own("a")[0].vector), ((1, 1),))
        self.assertTrue(all_alike(world))

    def test_two_devices(self):
        world = world_of(2)
        world.obey(("edit", 1, "a", LONG, 3))
        # The fourth block stands ahead in the content already.
        self.assertEqual([world.obey(("round", now)) for now in (4, 5)], [4, 0])
        self.assertEqual(world.devices[1].store.read("a"), (list(LONG), 3))
        world.obey(("edit", 2, "a", LONG + (7,), 9))
        self.assertEqual([world.obey(("round", now)) for now in (10, 11)], [1, 0])
        self.assertTrue(all_alike(world))
        self.assertEqual(world.lines.total("sent"), 0)

    def test_both_directions_in_one_round(self):
        world = world_of(2)
        world.obey(("edit", 1, "a", tuple(A + B), 3))
        world.obey(("edit", 2, "b", tuple(B + C), 3))
        # Device 1 works first: it lacks C alone; B is in its own file.
        self.assertEqual(world.obey(("round", 4)), 2)
        self.assertTrue(all_alike(world))

    def test_three_devices(self):
        world = world_of(3)
        world.obey(("edit", 2, "a", tuple(A + B), 3))
        self.assertEqual(world.obey(("round", 4)), 4)
        self.assertTrue(all_alike(world))

    def test_a_row_of_devices(self):
        for count in (3, 4):
            world = row_of(count)
            world.obey(("edit", 1, "a", tuple(A + B), 3))
            told = [world.obey(("round", 4 + at)) for at in range(count)]
            # A device asks ahead of its neighbour's work, so it goes one step on in each round.
            self.assertEqual(told, [2] * (count - 1) + [0])
            self.assertTrue(all_alike(world))

    def test_a_ring(self):
        world = world_of(4, [(1, 3), (2, 4)])
        world.obey(("edit", 1, "a", tuple(A + B), 3))
        self.assertEqual([world.obey(("round", 4)), world.obey(("round", 5))], [4, 2])
        self.assertTrue(all_alike(world))

    def test_cut_lines(self):
        world = world_of(4, [(1, 3), (1, 4), (2, 3), (2, 4)])
        world.obey(("edit", 1, "a", tuple(A), 3))
        world.obey(("edit", 3, "b", tuple(B), 3))
        self.assertEqual([world.obey(("round", 4)), world.obey(("round", 5))], [2, 0])
        self.assertTrue(are_alike(world.devices[0], world.devices[1]))
        self.assertTrue(are_alike(world.devices[2], world.devices[3]))
        self.assertFalse(are_alike(world.devices[0], world.devices[2]))
        world.obey(("join", 3, 2))
        for now in range(6, 10):
            world.obey(("round", now))
        self.assertTrue(all_alike(world))

    def test_it_scans_first(self):
        world = world_of(2)
        world.obey(("edit", 1, "a", tuple(A), 3))
        world.obey(("round", 4))
        world.obey(("remove", 2, "a"))
        world.obey(("round", 77))
        self.assertEqual([device.store.names() for device in world.devices], [[], []])
        self.assertEqual(world.history()[-1][3].time, 77)

    def test_the_queues_stay(self):
        world = world_of(2)
        world.obey(("ask", 1, 2))
        world.obey(("edit", 1, "a", tuple(A), 3))
        world.obey(("round", 4))
        self.assertEqual([world.lines.total(word) for word in ("sent", "waiting", "taken", "lost")], [1, 1, 0, 0])

    def test_refused_blocks_do_not_count(self):
        # Device 1 stands between 2 and 3. Device 2 hears of its content, but 1 takes a newer one of 3 ahead of its turn.
        world = world_of(3, [(1, 2), (2, 3)], Rule(0, 0))
        world.obey(("edit", 1, "a", tuple(A), 3))
        self.assertEqual(world.obey(("round", 4)), 1)
        world.obey(("edit", 3, "a", tuple(B), 5))
        world.obey(("join", 1, 2))
        self.assertEqual(world.obey(("round", 6)), 1)
        self.assertEqual([device.store.names() for device in world.devices], [["a"], [], ["a"]])
        self.assertEqual(world.devices[1].needed(), ["a"])
        self.assertEqual(world.obey(("round", 7)), 1)
        self.assertTrue(all_alike(world))

    def test_contents_that_are_gone(self):
        # Device 1 announced the content, but its user changed it again, and the attic keeps nothing.
        world = world_of(2, rule=Rule(0, 0))
        world.obey(("edit", 1, "a", tuple(A), 3))
        world.obey(("scan", 1, 4))
        world.obey(("ask", 2, 1))
        world.obey(("deliver", 2, 1, 0))
        world.obey(("deliver", 1, 2, 0))
        world.obey(("edit", 1, "a", tuple(B), 3))
        world.obey(("cut", 1, 2))
        self.assertEqual(world.obey(("round", 5)), 0)
        world.obey(("join", 1, 2))
        self.assertEqual(world.obey(("round", 6)), 1)
        self.assertTrue(all_alike(world))

    def test_left_out_names(self):
        world = world_of(2, patterns=[parse_patterns("*.o"), []])
        world.obey(("edit", 1, "a.o", tuple(A), 3))
        world.obey(("edit", 2, "b.o", tuple(A), 3))
        self.assertEqual(world.obey(("round", 4)), 0)
        self.assertEqual([device.store.names() for device in world.devices], [["a.o"], ["b.o"]])

    def test_as_told(self):
        rng = random.Random(5)
        blocks = 0
        for _ in range(60):
            world = drawn_world(rng)
            for _ in range(rng.randint(5, 40)):
                world.obey(drawn_command(rng, world, False))
            other = deepcopy(world)
            told = plain_round(other, 30)
            self.assertEqual(world.obey(("round", 30)), told)
            blocks += told
            for first, second in zip(world.devices, other.devices):
                self.assertEqual(all_of(first.store), all_of(second.store))
                self.assertEqual(told_by(first.book), told_by(second.book))
            self.assertEqual(shown(world.history()), shown(other.history()))
        self.assertGreater(blocks, 50)


class PowerEnds(unittest.TestCase):
    def ready(self):
        world = world_of(3)
        world.obey(("edit", 1, "a", tuple(A + B), 3))
        world.obey(("edit", 2, "a", tuple(C), 4))
        world.obey(("edit", 3, "b", tuple(D), 5))
        return world

    def test_at_each_write(self):
        seen = []
        for number in (1, 2, 3):
            budget = 0
            while True:
                world = self.ready()
                world.obey(("budget", number, budget))
                old = world.devices[number - 1]
                told = world.obey(("round", 10))
                self.assertIs(type(told), int)
                if world.devices[number - 1] is old:
                    self.assertEqual(told, self.ready().obey(("round", 10)))
                    break
                seen.append((number, told))
                for now in range(11, 20):
                    world.obey(("round", now))
                self.assertTrue(all_alike(world), (number, budget))
                self.assertEqual(files_of(world.devices[0])["b"], D)
                self.assertIn(A + B, files_of(world.devices[0]).values())
                self.assertIn(C, files_of(world.devices[0]).values())
                budget += 1
            self.assertGreater(budget, 100)
        self.assertGreater(len(set(seen)), 6)

    def test_in_the_scan(self):
        world = self.ready()
        world.obey(("budget", 1, 3))
        # Device 1 goes on with asking and working, and takes what the others scanned.
        self.assertEqual(world.obey(("round", 10)), 4)
        self.assertEqual([row[0] for row in world.history()[:3]], [2, 3, 1])
        self.assertIn(D, files_of(world.devices[0]).values())

    def test_in_one_direction(self):
        # Device 2 writes what it hears of device 1; it goes on with what device 3 tells.
        world = world_of(3)
        world.obey(("edit", 1, "a", tuple(A), 3))
        world.obey(("edit", 3, "b", tuple(B), 3))
        world.obey(("budget", 2, 4))
        self.assertEqual(world.obey(("round", 10)), 5 - 2)
        self.assertEqual([device.store.names() for device in world.devices], [["a", "b"], ["b"], ["a", "b"]])
        self.assertEqual([world.devices[1].book.upto(number) for number in (1, 3)], [0, 1])

    def test_in_a_work(self):
        # The block is answered, so it counts; the power ends while it is appended.
        world = world_of(3)
        world.obey(("edit", 1, "a", tuple(A + B), 3))
        world.obey(("round", 4))
        world.obey(("edit", 1, "a", tuple(C + D), 5))
        for budget in range(2000):
            tried = deepcopy(world)
            tried.obey(("budget", 2, budget))
            told = tried.obey(("round", 6))
            if tried.devices[1].store.temp("a") == [3, 3]:
                break
        # One block to device 2, and two to device 3.
        self.assertEqual(told, 3)
        self.assertEqual(tried.devices[1].store.read("a")[0], A + B)
        self.assertEqual(tried.devices[2].store.read("a")[0], C + D)

    def test_the_work_of_this_device_ends(self):
        # Two requests go out at once; the power ends at the first answer, so the second one is not answered.
        world = world_of(2)
        world.obey(("edit", 1, "a", tuple(A), 3))
        world.obey(("edit", 1, "b", tuple(B), 3))
        seen = []
        for budget in range(2000):
            tried = deepcopy(world)
            tried.obey(("budget", 2, budget))
            old = tried.devices[1]
            told = tried.obey(("round", 6))
            seen.append((told, tried.devices[1].store.temp("a"), tried.devices[1].store.temp("b")))
            if tried.devices[1] is old:
                break
        self.assertIn((0, None, None), seen)
        self.assertIn((1, [1], None), seen)
        self.assertIn((2, A, [2]), seen)
        self.assertNotIn((2, [1], None), seen)


class Alike(unittest.TestCase):
    def test_alike(self):
        self.assertIs(are_alike(device_of(), device_of()), True)
        first = device_of({"a": (A, 3)}, [own(has(A), 4)])
        # The time of a file, the number of an entry and what is known of peers may be other ones.
        second = device_of({"a": (A, 9)}, [own(has(A), 7), peer(2, wants(B))], [("q", (), D)], {"x": C}, number=2)
        self.assertIs(are_alike(first, second), True)
        self.assertIs(are_alike(second, first), True)

    def test_files(self):
        first = device_of({"a": A, "b": B})
        for files in ({"a": A}, {"a": A, "b": C}, {"a": A, "c": B}, {"a": A, "b": B, "c": B}, {}):
            self.assertIs(are_alike(first, device_of(files)), False)
            self.assertIs(are_alike(device_of(files), first), False)

    def test_entries(self):
        first = device_of({"a": A}, [own(has(A), 4)])
        value = has(A)
        others = [
            has(A, height=2), has(A, time=11), has(A, maker=(1, 2)), has(A, vector=((1, 2),)), has(B),
            Entry("a", value.vector, 1, value.maker, True, 10, ()), edited(None, "a", 2, 1, False, 10, (BA,))]
        for rows in [[own(other, 4)] for other in others] + [[], [own(has(A), 4), own(has(A, name="b"), 5)]]:
            self.assertIs(are_alike(first, device_of({"a": A}, rows)), False)
            self.assertIs(are_alike(device_of({"a": A}, rows), first), False)

    def test_they_stay_as_they_are(self):
        first, second = device_of({"a": A}, [own(has(A), 4)]), device_of({"a": B})
        first.store.set_budget(0)
        second.store.set_budget(0)
        try:
            are_alike(first, second)
        except PowerCut:
            self.fail()
        self.assertEqual(first.changes.rows() + second.changes.rows(), [])


class Joined(unittest.TestCase):
    def test_each_row_of_lines(self):
        # Whatever lines join all devices, they are alike behind enough rounds.
        rng = random.Random(6)
        for _ in range(12):
            world = world_of(4)
            join_all(world)
            for first, second in rng.sample([(1, 2), (1, 3), (1, 4), (2, 3), (2, 4), (3, 4)], 3):
                world.obey(("cut", first, second))
            for number in range(1, 5):
                world.obey(("edit", number, rng.choice("ab"), (number,), rng.randint(1, 3)))
            for now in range(12):
                world.obey(("round", now))
            groups = [world.lines.reached_from(number) for number in range(1, 5)]
            for first in range(4):
                for second in range(4):
                    alike = are_alike(world.devices[first], world.devices[second])
                    self.assertEqual(alike, groups[first] == groups[second])
