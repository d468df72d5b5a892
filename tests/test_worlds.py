"""Worlds and the commands that they obey (points 14.1 and 14.2)."""

import unittest
from copy import deepcopy

from folderkin.attic import Rule
from folderkin.content import split
from folderkin.devices import Device
from folderkin.entries import copy_of, edited, winner
from folderkin.letters import decode
from folderkin.lines import Lines
from folderkin.patterns import parse_patterns
from folderkin.worlds import World
from tests.rigs import A, B, BA, BB, C, gives
from tests.samples import all_of, entry, shown

WIDE = Rule(9, 1000)


def world_of(count=2, rule=WIDE, patterns=None):
    return World(count, rule, [[] for _ in range(count)] if patterns is None else patterns)


def store(world, number):
    return world.devices[number - 1].store


class WorldTest(unittest.TestCase):
    def assert_told(self, world, *pairs):
        """Each command is obeyed, and tells this."""
        for command, told in pairs:
            before = deepcopy(command)
            found = world.obey(command)
            self.assertEqual(found, told, command)
            self.assertIs(type(found), type(told), command)
            self.assertEqual(command, before)

    def obey(self, world, *commands):
        for command in commands:
            world.obey(command)

    def assert_history(self, world, *rows):
        self.assertEqual(shown(world.history()), shown(list(rows)))


class Making(WorldTest):
    def test_worlds(self):
        for count in range(1, 10):
            world = world_of(count)
            self.assertIsInstance(world.lines, Lines)
            self.assertEqual([device.number for device in world.devices], list(range(1, count + 1)))
            for device in world.devices:
                self.assertIs(type(device), Device)
                self.assertEqual((device.rule, device.patterns), (WIDE, []))
                self.assertEqual(all_of(device.store), ([], [], [], [], []))
            self.assertTrue(world.lines.connected())
            self.assertEqual(world.lines.reached_from(1), list(range(1, count + 1)))
            self.assertEqual((world.user_edits(), world.history()), ([], []))

    def test_patterns_of_each_device(self):
        patterns = [parse_patterns("*.o"), [], parse_patterns("b")]
        world = world_of(3, patterns=patterns)
        patterns[0].clear()
        patterns.clear()
        expected = [parse_patterns("*.o"), [], parse_patterns("b")]
        self.assertEqual([device.patterns for device in world.devices], expected)
        # A device that is made again has the same patterns.
        self.obey(world, ("budget", 1, 0), ("edit", 1, "a", (1,), 2))
        self.assertEqual([device.leaves_out("x.o") for device in world.devices], [True, False, False])

    def test_new_lists(self):
        world = world_of()
        self.obey(world, ("edit", 1, "a", (1,), 2), ("edit", 1, "a", (2,), 2), ("scan", 1, 3))
        world.history().clear()
        world.user_edits().clear()
        self.assertEqual((len(world.history()), len(world.user_edits())), (1, 1))


class Users(WorldTest):
    def test_edit(self):
        world = world_of()
        self.assert_told(world, (("edit", 2, "a", (1, 255), 7), None), (("edit", 2, "b", (), 0), None))
        self.assertEqual([store(world, 2).read(name) for name in "ab"], [([1, 255], 7), ([], 0)])
        self.assertEqual((store(world, 1).names(), world.user_edits(), world.history()), ([], [], []))

    def test_edit_over_a_file(self):
        world = world_of()
        self.obey(world, ("edit", 1, "a", (1, 2, 3, 4, 5), 7))
        # The same content does not replace anything.
        self.assert_told(world, (("edit", 1, "a", (1, 2, 3, 4, 5), 9), None))
        self.assertEqual((store(world, 1).read("a"), world.user_edits()), (([1, 2, 3, 4, 5], 9), []))
        self.assert_told(world, (("edit", 1, "a", (), 9), None), (("edit", 1, "a", (3,), 9), None))
        self.assertEqual(world.user_edits(), [(1, "a", split([1, 2, 3, 4, 5])), (1, "a", ())])

    def test_remove(self):
        world = world_of()
        self.assert_told(world, (("remove", 1, "a"), False))
        self.obey(world, ("edit", 1, "a", tuple(A), 7), ("edit", 2, "a", tuple(B), 7))
        self.assert_told(world, (("remove", 1, "a"), True), (("remove", 1, "a"), False), (("remove", 1, "b"), False))
        self.assertEqual((store(world, 1).names(), store(world, 2).names()), ([], ["a"]))
        self.assertEqual(world.user_edits(), [(1, "a", (BA,))])

    def test_move(self):
        world = world_of()
        self.assert_told(world, (("move", 1, "a", "b"), False), (("move", 1, "a", "a"), False))
        self.obey(world, ("edit", 1, "a", tuple(A), 7))
        self.assert_told(world, (("move", 1, "a", "b"), True), (("move", 1, "a", "b"), False))
        self.assertEqual((store(world, 1).names(), store(world, 1).read("b")), (["b"], (A, 7)))
        self.assertEqual(world.user_edits(), [(1, "a", (BA,))])

    def test_move_to_the_same_name(self):
        world = world_of()
        self.obey(world, ("edit", 1, "a", tuple(A), 7), ("budget", 1, 0))
        self.assert_told(world, (("move", 1, "a", "a"), True))
        self.assertEqual((store(world, 1).read("a"), world.user_edits()), ((A, 7), []))
        self.assertEqual(store(world, 1).done(), 1)

    def test_move_over_a_file(self):
        world = world_of()
        self.obey(world, ("edit", 1, "a", tuple(A), 7), ("edit", 1, "b", tuple(B), 8), ("edit", 1, "c", tuple(B), 9))
        self.assert_told(world, (("move", 1, "a", "b"), True))
        self.assertEqual(world.user_edits(), [(1, "a", (BA,)), (1, "b", (BB,))])
        # One with the same content is not told of.
        self.obey(world, ("edit", 1, "d", tuple(A), 7))
        self.assert_told(world, (("move", 1, "d", "b"), True))
        self.assertEqual(world.user_edits()[2:], [(1, "d", (BA,))])
        self.assertEqual(store(world, 1).names(), ["b", "c"])

    def test_move_from_a_name_of_a_copy(self):
        # Users rename to no name with a ~, but from such a name, and edit such a file.
        world = world_of()
        self.obey(world, ("edit", 1, "a", tuple(A), 1), ("edit", 2, "a", tuple(B), 2), ("round", 3), ("round", 3))
        self.assertEqual(store(world, 1).names(), ["a", "a~1-1"])
        self.assert_told(world, (("edit", 1, "a~1-1", tuple(C), 5), None), (("move", 1, "a~1-1", "b"), True))
        self.assertEqual(store(world, 1).names(), ["a", "b"])
        self.assertEqual([row[1] for row in world.user_edits()], ["a~1-1", "a~1-1"])

    def test_move_to_a_name_of_a_copy(self):
        # Users do not do so, but a world does not refuse it.
        world = world_of()
        self.obey(world, ("edit", 1, "a", tuple(A), 1), ("edit", 2, "a", tuple(B), 2), ("round", 3), ("round", 3))
        self.assert_told(world, (("move", 1, "a", "a~1-1"), True), (("move", 2, "a", "b~9-9"), True))
        self.assertEqual((store(world, 1).names(), store(world, 2).names()), (["a~1-1"], ["a~1-1", "b~9-9"]))
        self.assertEqual(world.user_edits(), [(1, "a", (BB,)), (1, "a~1-1", (BA,)), (2, "a", (BB,))])

    def test_the_power_ends(self):
        for command, told in (
                (("edit", 1, "a", (9,), 9), None), (("edit", 1, "b", (9,), 9), None), (("remove", 1, "a"), False),
                (("move", 1, "a", "b"), False), (("move", 1, "a", "c"), False)):
            world = world_of()
            self.obey(world, ("edit", 1, "a", tuple(A), 7), ("edit", 1, "c", tuple(B), 7), ("scan", 1, 8))
            before, old = all_of(store(world, 1)), world.devices[0]
            self.obey(world, ("budget", 1, 0))
            self.assert_told(world, (command, told))
            self.assertEqual((all_of(store(world, 1)), world.user_edits()), (before, []))
            self.assertIsNot(world.devices[0], old)
            self.assertEqual(len(world.history()), 2)
            # It has power again.
            world.obey(command)
            self.assertNotEqual(all_of(store(world, 1)), before)

    def test_the_power_ends_behind_it(self):
        world = world_of()
        self.obey(world, ("budget", 1, 1))
        self.assert_told(world, (("edit", 1, "a", (9,), 9), None), (("remove", 1, "a"), False))
        self.assertEqual((store(world, 1).names(), world.user_edits()), (["a"], []))


class Scans(WorldTest):
    def test_scan(self):
        world = world_of()
        self.assert_told(world, (("scan", 1, 3), 0))
        self.obey(world, ("edit", 1, "a", tuple(A), 7), ("edit", 1, "b", tuple(B), 8))
        self.assert_told(world, (("scan", 2, 3), 0), (("scan", 1, 3), 2), (("scan", 1, 4), 0))
        self.obey(world, ("remove", 1, "a"))
        self.assert_told(world, (("scan", 1, 5), 1))
        first = edited(None, "a", 1, 1, False, 7, (BA,))
        self.assert_history(
            world, (1, "edit", None, first), (1, "edit", None, edited(None, "b", 1, 2, False, 8, (BB,))),
            (1, "edit", first, edited(first, "a", 1, 3, True, 5, ())))

    def test_left_out_names(self):
        world = world_of(2, patterns=[parse_patterns("*.o"), []])
        self.obey(world, *[("edit", number, name, (1,), 1) for number in (1, 2) for name in ("a", "b.o")])
        self.assert_told(world, (("scan", 1, 2), 1), (("scan", 2, 2), 2))

    def test_the_power_ends(self):
        budget, told = 0, None
        while told is None:
            world = world_of()
            self.obey(world, ("edit", 1, "a", tuple(A), 7), ("edit", 1, "b", tuple(B), 8), ("budget", 1, budget))
            old = world.devices[0]
            told = world.obey(("scan", 1, 3))
            # What was told before the power ended stays told.
            self.assertEqual([row[3] for row in world.history()], [pair[0] for pair in world.devices[0].book.behind(0)])
            self.assertEqual([row[1] for row in world.history()], ["edit"] * len(world.history()))
            self.assertEqual(world.devices[0] is old, told is not None)
            budget += 1
        self.assertEqual(told, 2)


class Lining(WorldTest):
    def ready(self, count=3):
        world = world_of(count)
        self.obey(world, ("edit", 1, "a", tuple(A + B), 7), ("scan", 1, 8))
        return world

    def test_ask(self):
        world = self.ready()
        self.assert_told(world, (("ask", 2, 1), None), (("ask", 1, 3), None))
        self.assertEqual([decode(data) for data in world.lines.waiting(2, 1)], [("ask", 0)])
        self.assertEqual([decode(data) for data in world.lines.waiting(1, 3)], [("ask", 0)])
        self.assertEqual(world.lines.total("sent"), 2)

    def test_ask_over_a_cut_line(self):
        world = self.ready()
        self.assert_told(world, (("cut", 1, 2), None), (("ask", 2, 1), None))
        self.assertEqual((world.lines.waiting(2, 1), world.lines.total("lost")), ([], 1))

    def test_deliver(self):
        world = self.ready()
        self.assert_told(
            world, (("deliver", 2, 1, 0), False), (("ask", 2, 1), None), (("deliver", 2, 1, 1), False),
            (("deliver", 2, 1, -1), False), (("deliver", 1, 2, 0), False), (("deliver", 2, 1, 0), True))
        (answer,) = world.lines.waiting(1, 2)
        self.assertEqual(decode(answer)[:3], ("entries", 0, 1))
        self.assertEqual(world.lines.waiting(2, 1), [])
        self.assert_told(world, (("deliver", 1, 2, 0), True), (("ask", 2, 1), None))
        self.assertEqual(world.devices[1].needed(), ["a"])
        self.assertEqual(decode(world.lines.waiting(2, 1)[0]), ("ask", 1))
        # The peer that heard it is that of the line.
        self.assertEqual(world.devices[1].book.peer_devices(), [1])

    def test_deliver_over_a_cut_line(self):
        world = self.ready()
        self.obey(world, ("ask", 2, 1), ("cut", 2, 1))
        self.assert_told(world, (("deliver", 2, 1, 0), False), (("join", 1, 2), None), (("deliver", 2, 1, 0), True))

    def test_any_letter_may_be_delivered(self):
        world = self.ready()
        self.obey(world, ("ask", 2, 1), ("ask", 3, 1), ("deliver", 2, 1, 0), ("deliver", 3, 1, 0))
        self.obey(world, ("edit", 1, "b", tuple(C), 9), ("scan", 1, 9), ("ask", 2, 1), ("deliver", 2, 1, 0))
        self.assert_told(world, (("deliver", 1, 2, 1), True))
        self.assertEqual(world.devices[1].ask(1), ("ask", 2))
        self.assert_told(world, (("deliver", 1, 2, 0), True), (("deliver", 1, 2, 0), False))
        self.assertEqual(world.devices[1].ask(1), ("ask", 2))

    def test_drop_double_swap(self):
        world = self.ready()
        self.assert_told(
            world, (("drop", 2, 1, 0), False), (("double", 2, 1, 0), False), (("swap", 2, 1, 0), False),
            (("ask", 2, 1), None), (("double", 2, 1, 0), True), (("double", 2, 1, 2), False),
            (("drop", 2, 1, 1), True), (("drop", 2, 1, 1), False), (("swap", 2, 1, 0), False))
        # A request with other letters behind it.
        self.obey(world, ("round", 9), ("ask", 2, 1), ("cut", 2, 1))
        self.assertEqual([decode(data) for data in world.lines.waiting(2, 1)], [("ask", 0), ("ask", 1)])
        self.assert_told(world, (("swap", 2, 1, 0), True), (("swap", 2, 1, 1), False))
        self.assertEqual([decode(data) for data in world.lines.waiting(2, 1)], [("ask", 1), ("ask", 0)])
        self.assert_told(world, (("double", 2, 1, 0), True), (("drop", 2, 1, 0), True))
        self.assertEqual([decode(data) for data in world.lines.waiting(2, 1)], [("ask", 0), ("ask", 1)])

    def test_cut_and_join(self):
        world = world_of(3)
        self.assert_told(world, (("cut", 2, 1), None), (("cut", 1, 2), None), (("cut", 3, 1), None))
        self.assertEqual((world.lines.is_joined(1, 2), world.lines.connected()), (False, False))
        self.assert_told(world, (("join", 1, 2), None), (("join", 2, 3), None))
        self.assertEqual((world.lines.is_joined(1, 3), world.lines.connected()), (False, True))

    def test_the_power_ends_in_a_delivery(self):
        world = self.ready()
        self.obey(world, ("ask", 2, 1), ("deliver", 2, 1, 0), ("budget", 2, 5))
        old = world.devices[1]
        self.assert_told(world, (("deliver", 1, 2, 0), False))
        self.assertEqual((world.lines.waiting(1, 2), world.devices[1].ask(1)), ([], ("ask", 0)))
        self.assertIsNot(world.devices[1], old)
        self.assertEqual((world.lines.total("taken"), world.lines.total("lost")), (2, 0))
        # It is asked for again.
        self.obey(world, ("ask", 2, 1), ("deliver", 2, 1, 0), ("deliver", 1, 2, 0))
        self.assertEqual(world.devices[1].ask(1), ("ask", 1))

    def test_answers_are_sent_over_the_line(self):
        world = self.ready()
        self.obey(world, ("ask", 2, 1), ("deliver", 2, 1, 0), ("deliver", 1, 2, 0))
        self.assert_told(world, (("work", 2, 9), 1), (("deliver", 2, 1, 0), True))
        self.assertEqual([decode(data) for data in world.lines.waiting(1, 2)], [gives(BA)])
        self.assert_told(world, (("deliver", 1, 2, 0), True))
        self.assertEqual((store(world, 2).temp("a"), world.lines.total("waiting")), (A, 0))


class Works(WorldTest):
    def ready(self):
        world = world_of(3)
        self.obey(world, ("edit", 1, "a", tuple(A + B), 7), ("edit", 1, "b", tuple(C), 8), ("scan", 1, 8))
        for number in (2, 3):
            self.obey(world, ("ask", number, 1), ("deliver", number, 1, 0), ("deliver", 1, number, 0))
        return world

    def test_work(self):
        world = self.ready()
        self.assert_told(world, (("work", 1, 9), 0), (("work", 2, 9), 2), (("work", 2, 9), 2))
        letters = [decode(data)[:2] for data in world.lines.waiting(2, 1)]
        self.assertEqual(letters, [("request", "a"), ("request", "b")] * 2)
        self.assertEqual(world.lines.waiting(2, 3), [])

    def test_the_time_of_its_scans(self):
        world = self.ready()
        self.obey(world, ("round", 9), ("edit", 1, "a", (1,), 10), ("scan", 1, 10), ("ask", 2, 1), ("deliver", 2, 1, 0))
        self.obey(world, ("deliver", 1, 2, 0), ("remove", 2, "a"), ("work", 2, 77))
        self.assertEqual([(row[3].deleted, row[3].time) for row in world.history() if row[0] == 2][-1], (True, 77))

    def test_with_the_peers_of_joined_lines(self):
        world = self.ready()
        self.obey(world, ("cut", 1, 2))
        self.assert_told(world, (("work", 2, 9), 0), (("work", 3, 9), 2))
        # Device 3 takes them first, and tells 2 of them then.
        self.obey(world, ("round", 9))
        self.assertEqual(store(world, 2).names(), [])
        self.obey(world, ("round", 9))
        self.assertEqual(store(world, 2).names(), ["a", "b"])

    def test_all_that_a_work_does(self):
        world = self.ready()
        for _ in range(3):
            world.obey(("work", 2, 9))
            while world.obey(("deliver", 2, 1, 0)):
                pass
            while world.obey(("deliver", 1, 2, 0)):
                pass
        first, second = [row[3] for row in world.history()[:2]]
        self.assert_history(
            world, (1, "edit", None, first), (1, "edit", None, second), (2, "take", None, second),
            (2, "take", None, first))
        self.assert_told(world, (("work", 2, 9), 0))
        self.assertEqual(store(world, 2).read("a"), (A + B, 7))

    def test_the_power_ends(self):
        world = self.ready()
        self.obey(world, ("edit", 2, "c", tuple(A), 3), ("budget", 2, 3))
        old = world.devices[1]
        # A block of the content of a is near by now: the power ends while it is appended, and no letter is sent.
        self.assert_told(world, (("work", 2, 9), None))
        self.assertIsNot(world.devices[1], old)
        self.assertEqual((store(world, 2).temp("a"), world.lines.waiting(2, 1)), ([1, 1, 1], []))
        self.assert_told(world, (("work", 2, 9), 2))
        self.assertEqual(store(world, 2).temp("a"), A)


class Budgets(WorldTest):
    def test_budget(self):
        world = world_of()
        self.assert_told(world, (("budget", 1, 2), None), (("budget", 2, None), None))
        self.obey(world, ("edit", 1, "a", (1,), 1), ("edit", 2, "a", (1,), 1), ("edit", 1, "b", (1,), 1))
        self.assert_told(world, (("edit", 1, "c", (1,), 1), None))
        self.assertEqual((store(world, 1).names(), store(world, 2).names()), (["a", "b"], ["a"]))
        # Made again, it has a budget of None.
        self.obey(world, *[("edit", 1, "d", (at,), 1) for at in range(40)])
        self.assertEqual(store(world, 1).read("d"), ([39], 1))

    def test_a_later_budget(self):
        world = world_of()
        self.obey(world, ("budget", 1, 0), ("budget", 1, None), ("edit", 1, "a", (1,), 1))
        self.assertEqual(store(world, 1).names(), ["a"])


class Histories(WorldTest):
    def test_edits_copies_joins_and_takes(self):
        world = world_of(2)
        self.obey(world, ("edit", 1, "a", tuple(A), 10), ("edit", 2, "a", tuple(B), 20), ("round", 30))
        first, second = edited(None, "a", 1, 1, False, 10, (BA,)), edited(None, "a", 2, 1, False, 20, (BB,))
        copy = copy_of(first, 1, 2)
        rows = [(1, "edit", None, first), (2, "edit", None, second)]
        rows += [(1, "copy", None, copy), (1, "take", first, second)]
        self.assert_history(world, *rows)
        self.obey(world, ("round", 31))
        rows.append((2, "take", None, copy))
        self.assert_history(world, *rows)
        # Both users write the same.
        self.obey(world, ("edit", 1, "b", tuple(C), 40), ("edit", 2, "b", tuple(C), 40), ("round", 41), ("round", 42))
        mine = edited(None, "b", 1, 4, False, 40, split(C))
        yours = edited(None, "b", 2, 3, False, 40, split(C))
        best = winner([mine, yours])
        rows += [(1, "edit", None, mine), (2, "edit", None, yours), (1, "join", mine, best), (2, "join", yours, best)]
        self.assert_history(world, *rows)

    def test_a_removed_file(self):
        world = world_of(2)
        self.obey(world, ("edit", 1, "a", tuple(A), 10), ("round", 30), ("remove", 2, "a"), ("round", 31))
        first = edited(None, "a", 1, 1, False, 10, (BA,))
        later = edited(first, "a", 2, 2, True, 31, ())
        self.assert_history(
            world, (1, "edit", None, first), (2, "take", None, first), (2, "edit", first, later),
            (1, "take", first, later))

    def test_an_intent_that_a_scan_found(self):
        """The power ends between putting the content in place and the record."""
        for budget in range(300):
            world = world_of(2)
            self.obey(world, ("edit", 1, "a", tuple(A), 10), ("scan", 1, 11), ("ask", 2, 1), ("deliver", 2, 1, 0))
            self.obey(world, ("deliver", 1, 2, 0), ("edit", 2, "z", tuple(A), 1), ("scan", 2, 1), ("budget", 2, budget))
            self.obey(world, ("work", 2, 12))
            if store(world, 2).read("a") is not None and world.devices[1].book.own("a") is None:
                break
        else:
            self.fail()
        rows = world.history()
        self.assertEqual(world.devices[1].book.intents(), ["a"])
        self.assert_told(world, (("scan", 2, 13), 1))
        self.assert_history(world, *rows, (2, "take", None, rows[0][3]))

    def full(self, last):
        """A world behind the command `last`, whose device 1 then writes its log anew in its scan."""
        for many in range(60):
            world = world_of(2)
            for at in range(many):
                self.obey(world, ("edit", 1, "a", (at,), at), ("scan", 1, at))
            world.obey(last)
            tried = deepcopy(world)
            self.assertEqual(tried.obey(("scan", 1, 100)), 1)
            if len(store(tried, 1).log()) < len(store(world, 1).log()):
                return world
        self.fail()

    def found(self, last):
        """Each (budget, world behind a scan in which the power ended with it)."""
        full = self.full(last)
        for budget in range(2000):
            world = deepcopy(full)
            world.obey(("budget", 1, budget))
            if world.obey(("scan", 1, 100)) is not None:
                break
            rows = full.history()
            self.assertEqual(shown(world.history()[:len(rows)]), shown(rows))
            yield budget, world, world.history()[len(rows):]
        self.assertGreater(budget, 60)

    def test_found(self):
        """The power ends while the book writes its log anew, behind the record of an own entry."""
        words = []
        for budget, world, new in self.found(("edit", 1, "a", (99,), 99)):
            words.append(len(new))
            number = len(world.history())
            self.assertEqual(world.devices[0].book.next_number(), number + 1)
            if new:
                before = world.history()[-2][3]
                later = edited(before, "a", 1, number, False, 99, split([99]))
                self.assertEqual(shown(new), shown([(1, "found", before, later)]))
                self.assertEqual(shown(world.devices[0].book.own("a")), shown((later, number)))
                # It is told once alone.
                self.assert_told(world, (("scan", 1, 101), 0), (("remove", 1, "a"), True), (("scan", 1, 102), 1))
                last = (1, "edit", later, edited(later, "a", 1, number + 1, True, 102, ()))
                self.assertEqual(shown(world.history()[-1]), shown(last))
        self.assertEqual(words, sorted(words))
        self.assertEqual((min(words), max(words)), (0, 1))

    def test_found_with_nothing_before(self):
        # The log stays long when the power ends while it is written anew, so the next record has it written anew, too.
        seen = []
        budget, full, _ = [row for row in self.found(("edit", 1, "a", (99,), 99)) if row[2]][0]
        self.obey(full, ("edit", 1, "a", (98,), 99), ("budget", 1, budget), ("scan", 1, 100))
        rows = full.history()
        self.assertEqual([row[1] for row in rows[-3:]], ["edit", "found", "found"])
        for budget in range(0, 400, 5):
            world = deepcopy(full)
            self.obey(world, ("edit", 1, "b", (7,), 8), ("budget", 1, budget))
            told = world.obey(("scan", 1, 101))
            value = edited(None, "b", 1, len(rows) + 1, False, 8, (263,))
            for row in world.history()[len(rows):]:
                self.assertEqual(shown(row), shown((1, row[1], None, value)))
                seen.append(row[1])
            if told is not None:
                break
        self.assertEqual(sorted(set(seen)), ["edit", "found"])

    def test_found_in_a_work(self):
        """A winner was placed, and its record was whole."""
        seen = []
        for many in range(16):
            world = world_of(2)
            self.obey(world, ("edit", 1, "a", (7,), 7), ("round", 8))
            for at in range(many):
                self.obey(world, ("edit", 2, "z", (at,), at), ("scan", 2, at))
            self.obey(world, ("edit", 1, "a", (77,), 77), ("scan", 1, 77), ("ask", 2, 1), ("deliver", 2, 1, 0))
            self.obey(world, ("deliver", 1, 2, 0), ("work", 2, 77), ("deliver", 2, 1, 0), ("deliver", 1, 2, 0))
            rows = world.history()
            before, after = world.devices[1].book.own("a")[0], world.devices[0].book.own("a")[0]
            told, budget = None, 0
            while told is None:
                tried = deepcopy(world)
                tried.obey(("budget", 2, budget))
                told = tried.obey(("work", 2, 78))
                new = tried.history()[len(rows):]
                if new:
                    seen.append(new[0][1])
                    self.assertEqual(shown(new), shown([(2, new[0][1], before, after)]))
                budget += 7
            self.assertEqual((told, seen[-1]), (0, "take"))
        self.assertIn("found", seen)

    def test_the_rows_of_a_device_are_its_records(self):
        world = world_of(2)
        self.obey(world, ("edit", 1, "a", tuple(A), 10), ("edit", 2, "a", tuple(B), 20), ("round", 30), ("round", 31))
        for number in (1, 2):
            rows = [row for row in world.history() if row[0] == number]
            self.assertEqual(world.devices[number - 1].book.next_number(), len(rows) + 1)
            for row in rows:
                self.assertEqual(row[3].vector[0][1] >= 1, True)

    def test_entries_are_kept_as_they_are(self):
        world = world_of(1)
        self.obey(world, ("edit", 1, "a", tuple(A), 10), ("scan", 1, 11))
        self.assertEqual(shown(world.history()[0][3]), shown(entry(vector=((1, 1),), maker=(1, 1), blocks=(BA,))))
