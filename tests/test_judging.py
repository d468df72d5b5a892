"""Fates, reasons and differences, and their judges (chapter 15)."""

import itertools
import random
import unittest
from copy import deepcopy

from folderkin.attic import Rule
from folderkin.content import joined
from folderkin.entries import alike, edited, key_of, winner
from folderkin.judging import fates, judge_fates, judge_winner, reasons, unlike
from folderkin.worlds import World, are_alike
from tests.drawing import drawn_command, drawn_world
from tests.rigs import A, B, C, D
from tests.rigs import device_of, has, own, peer, state, unchanged, wants
from tests.samples import entry, gone, parts_of, random_entry, shown

OTHERS = (None, 1, True, "", "removed", (), [], {}, ("removed",), [("removed",)], [[]], [()], [None], b"", {1: 2})


def world_of(*commands, count=2, rule=Rule(9, 1000)):
    world = World(count, rule, [[] for _ in range(count)])
    for command in commands:
        world.obey(command)
    return world


class Fates(unittest.TestCase):
    def assert_fates(self, world, *expected):
        found = unchanged(self, fates, world)
        self.assertEqual(found, list(expected))
        self.assertIs(unchanged(self, judge_fates, world, found), True)

    def test_none(self):
        self.assert_fates(world_of())
        self.assertIs(judge_fates(world_of(), []), True)
        self.assertIs(judge_fates(world_of(), ()), False)

    def test_removed(self):
        world = world_of(("edit", 1, "a", tuple(A), 1), ("scan", 1, 2), ("remove", 1, "a"), ("scan", 1, 3))
        self.assert_fates(world, ("replaced", 0), ("removed",))

    def test_stands(self):
        world = world_of(("edit", 2, "b", tuple(A), 1), ("scan", 2, 2))
        self.assert_fates(world, ("stands", 2, "b"))
        # The least device, and its least name: also that of another file.
        for command, fate in (
                (("edit", 2, "B", tuple(A), 1), ("stands", 2, "B")),
                (("edit", 1, "x", tuple(A), 1), ("stands", 1, "x"))):
            world.obey(command)
            self.assertNotEqual(fates(world)[0], fate)
            world.obey(("scan", command[1], 3))
            self.assert_fates(world, *[fate] * len(world.history()))

    def test_a_file_that_was_not_scanned_does_not_stand(self):
        world = world_of(("edit", 1, "a", tuple(A), 1), ("scan", 1, 2), ("edit", 1, "a", tuple(B), 3))
        self.assert_fates(world, ("replaced", 0))
        world.obey(("edit", 1, "b", tuple(A), 3))
        self.assert_fates(world, ("replaced", 0))
        world.obey(("scan", 1, 4))
        self.assert_fates(world, ("stands", 1, "b"), ("stands", 1, "a"), ("stands", 1, "b"))

    def test_replaced(self):
        world = world_of(
            ("edit", 2, "q", tuple(A), 1), ("remove", 2, "q"), ("edit", 1, "a", tuple(A), 1), ("scan", 1, 2),
            ("move", 1, "a", "b"))
        # The least index, whoever replaced a file with this content.
        self.assert_fates(world, ("replaced", 0))
        world = world_of(("edit", 1, "a", (), 1), ("scan", 1, 2), ("remove", 1, "a"))
        self.assert_fates(world, ("replaced", 0))

    def attic_world(self, rule=Rule(9, 1000)):
        """Device 2 took a newer content of device 1, and device 1 knows nothing of the older one."""
        world = world_of(("edit", 1, "a", tuple(A), 1), ("round", 2), rule=rule)
        world.devices[0].store.write("a", B, 5)
        world.obey(("round", 6))
        return world

    def test_attic(self):
        world = self.attic_world()
        self.assertEqual(world.devices[1].store.attic(), [("a", ((1, 1),), A)])
        self.assert_fates(world, ("attic", 2, 0), ("attic", 2, 0), ("stands", 1, "a"), ("stands", 1, "a"))
        world.devices[0].store.attic_put("x", (), D)
        world.devices[0].store.attic_put("x", (), A)
        self.assert_fates(world, ("attic", 1, 1), ("attic", 1, 1), ("stands", 1, "a"), ("stands", 1, "a"))

    def test_lost(self):
        world = self.attic_world(Rule(0, 0))
        self.assertEqual(fates(world)[:2], [("lost",)] * 2)
        self.assertIs(judge_fates(world, fates(world)), False)

    def test_the_first_one_is_told(self):
        world = self.attic_world()
        world.obey(("edit", 2, "c", tuple(A), 1))
        world.obey(("remove", 2, "c"))
        self.assertEqual(fates(world)[0], ("replaced", 0))
        world.obey(("edit", 2, "c", tuple(A), 1))
        world.obey(("scan", 2, 9))
        self.assertEqual(fates(world)[0], ("stands", 2, "c"))

    def test_new_lists(self):
        world = self.attic_world()
        fates(world).clear()
        self.assertEqual(len(fates(world)), 4)


class JudgingFates(unittest.TestCase):
    def setUp(self):
        # The content A stands twice at device 1 and once at device 2, was replaced twice, and lies twice in the attic.
        self.world = world_of(
            ("edit", 1, "a", tuple(A), 1), ("edit", 1, "b", tuple(A), 1), ("edit", 2, "q", tuple(A), 1),
            ("remove", 2, "q"), ("edit", 1, "b", tuple(C), 1), ("edit", 1, "b", tuple(A), 1), ("scan", 1, 2),
            ("round", 3), ("edit", 1, "gone", (), 3), ("scan", 1, 4), ("remove", 1, "gone"), ("scan", 1, 4))
        self.world.devices[1].store.attic_put("x", (), B)
        self.world.devices[1].store.attic_put("x", (), A)
        self.paper = fates(self.world)
        self.rows = self.world.history()

    def judged(self, fate, index=0):
        return unchanged(self, judge_fates, self.world, self.paper[:index] + [fate] + self.paper[index + 1:])

    def test_the_told_ones(self):
        self.assertIs(judge_fates(self.world, self.paper), True)
        self.assertEqual([row[3].deleted for row in self.rows], [False] * (len(self.rows) - 1) + [True])

    def test_other_true_ones(self):
        for fate in (
                ("stands", 1, "a"), ("stands", 1, "b"), ("stands", 2, "a"), ("stands", 2, "b"), ("replaced", 0),
                ("replaced", 1), ("attic", 2, 1)):
            self.assertIs(self.judged(fate), True, fate)

    def test_wrong_ones(self):
        self.world.obey(("edit", 1, "new", tuple(A), 1))
        for fate in (
                ("lost",), ("removed",), ("replaced", 2), ("replaced", 3), ("replaced", -1), ("replaced", 99),
                ("attic", 2, 0), ("attic", 2, 2), ("attic", 2, -1), ("attic", 1, 0), ("attic", 3, 1), ("attic", 0, 1),
                ("attic", -1, 1), ("stands", 1, "c"), ("stands", 1, "new"), ("stands", 1, "gone"), ("stands", 0, "a"),
                ("stands", 3, "a"), ("stands", -1, "a"), ("stands", 2, "q")):
            self.assertIs(self.judged(fate), False, fate)

    def test_other_forms(self):
        for fate in OTHERS + (
                ("stands", 1), ("stands", 1, "a", 1), ("stands", "1", "a"), ("stands", 1, None), ("stands", 1, 1),
                ("stands", 1, ["a"]), ("stands", 1, ("a",)), ["stands", 1, "a"], ("stays", 1, "a"), "stands",
                ("replaced",), ("replaced", 0, 0), ("replaced", "0"), ("replaced", None), ["replaced", 0],
                ("attic", 2), ("attic", 2, 1, 1), ("attic", 2, "1"), ("attic", None, 1), ("attic", [2], 1),
                (None, 1, "a"), ("loft", 2, 1), (1, 2), (1, 2, 3), ("lost", 1), ("removed", 1), ("attic", 2, 1.0), ("replaced", 0.0)):
            self.assertIs(self.judged(fate), False, fate)

    def test_truth_values(self):
        self.assertIs(self.judged(("stands", True, "a")), False)
        self.assertIs(self.judged(("attic", 2, True)), False)
        self.assertIs(self.judged(("replaced", False)), False)

    def test_deleted_entries(self):
        last = len(self.rows) - 1
        self.assertIs(self.judged(("removed",), last), True)
        for fate in (("stands", 1, "a"), ("lost",), ["removed"], ("removed", 1), ("replaced", 2), None, "removed", ()):
            self.assertIs(self.judged(fate, last), False, fate)

    def test_each_row(self):
        for index in range(len(self.rows)):
            self.assertIs(self.judged(("lost",), index), False)
        for paper in (self.paper[:-1], self.paper[1:], self.paper + [("removed",)], [], self.paper * 2):
            self.assertIs(judge_fates(self.world, paper), False)

    def test_no_lists(self):
        for paper in OTHERS + (tuple(self.paper), dict(enumerate(self.paper)), {row: row for row in self.paper}):
            self.assertIs(judge_fates(self.world, paper), False)

    def test_drawn_worlds(self):
        """Changed papers are taken exactly if each fate is so, by plain words."""
        rng = random.Random(2)
        for _ in range(40):
            world = drawn_world(rng)
            for _ in range(40):
                world.obey(drawn_command(rng, world))
            rows, paper = world.history(), fates(world)
            self.assertIs(judge_fates(world, paper), True)
            self.assertIs(judge_fates(deepcopy(world), list(paper)), True)
            for _ in range(15 if paper else 0):
                at = rng.randrange(len(paper))
                fate = rng.choice([
                    ("stands", rng.randint(1, 4), rng.choice("abc")), ("replaced", rng.randrange(4)),
                    ("attic", rng.randint(1, 4), rng.randrange(3)), rng.choice(paper)])
                changed = paper[:at] + [fate] + paper[at + 1:]
                self.assertIs(judge_fates(world, changed), self.is_so(world, rows[at][3], fate))

    def is_so(self, world, value, fate):
        if value.deleted or fate[0] == "removed":
            return value.deleted and fate[0] == "removed"
        if fate[0] == "replaced":
            return [row[2] for row in world.user_edits()][fate[1]:fate[1] + 1] == [value.blocks]
        if fate[1] > len(world.devices):
            return False
        device = world.devices[fate[1] - 1]
        content = joined(value.blocks)
        if fate[0] == "attic":
            return [row[2] for row in device.store.attic()][fate[2]:fate[2] + 1] == [content]
        file, pair = device.store.read(fate[2]), device.book.own(fate[2])
        return file is not None and file[0] == content and pair is not None and alike(pair[0], value)


class Reasons(unittest.TestCase):
    def assert_reasons(self, entries, expected):
        found = unchanged(self, reasons, entries)
        self.assertEqual(found, expected)
        self.assertEqual([type(found), type(found[1])] + [type(row) for row in found[1]], [tuple] * (2 + len(entries)))
        self.assertIs(judge_winner(entries, winner(entries), found), True)

    def test_one_entry(self):
        self.assert_reasons([entry()], (0, (("alike",),)))
        self.assert_reasons([gone()], (0, (("alike",),)))

    def test_alike_ones(self):
        first, second = entry(vector=((1, 4),)), entry(vector=((2, 4),), height=3)
        self.assert_reasons([first, second], (1, (("alike",),) * 2))
        self.assert_reasons([second, first, second], (0, (("alike",),) * 3))
        self.assert_reasons([gone(), gone(height=2)], (1, (("alike",),) * 2))

    def test_equal_keys(self):
        less = entry(blocks=(354,), time=3)
        self.assert_reasons([less, entry(), entry(), less], (1, (
            ("less", 1, 3, 10), ("alike",), ("alike",), ("less", 1, 3, 10))))

    def test_each_part(self):
        best = entry(height=3, time=5, maker=(2, 4), vector=((2, 4),))
        for value, row in (
                (entry(height=2, time=9, blocks=(354,)), ("less", 0, 2, 3)),
                (entry(height=3, time=4, blocks=(354,)), ("less", 1, 4, 5)),
                (gone(height=3, time=5), ("less", 2, 0, 1)),
                (entry(height=3, time=5, maker=(3, 1), blocks=(354,)), ("less", 3, -3, -2)),
                (entry(height=3, time=5, maker=(2, 5), blocks=(354,)), ("less", 4, -5, -4)),
                (entry(height=3, time=5, maker=(2, 4), vector=((3, 9),), blocks=(354,)), (
                    "less", 5, (0, 0, 9, 0, 0, 0, 0, 0, 0), (0, 4, 0, 0, 0, 0, 0, 0, 0)))):
            self.assert_reasons([value, best], (1, (row, ("alike",))))
            self.assert_reasons([best, value, best], (0, (("alike",), row, ("alike",))))

    def test_drawn_ones(self):
        rng = random.Random(3)
        for _ in range(200):
            values = [random_entry(rng, "a") for _ in range(rng.randint(1, 3))]
            entries = [rng.choice(values) for _ in range(rng.randint(1, 5))]
            best, rows = reasons(entries)
            keys = [key_of(value) for value in entries]
            self.assertEqual(best, keys.index(max(keys)))
            for value, row in zip(entries, rows):
                if alike(value, entries[best]):
                    self.assertEqual(row, ("alike",))
                else:
                    parts = [at for at in range(6) if key_of(value)[at] != max(keys)[at]]
                    self.assertEqual(row, ("less", parts[0], key_of(value)[parts[0]], max(keys)[parts[0]]))
                    self.assertLess(row[2], row[3])
            self.assertIs(judge_winner(entries, winner(entries), (best, rows)), True)


class JudgingReasons(unittest.TestCase):
    LESS, ALIKE, BEST = entry(blocks=(354,), time=9), entry(height=1, vector=((3, 1),), time=3), entry(vector=((1, 4),))
    ENTRIES = [BEST, LESS, BEST, ALIKE]
    ROWS = (("alike",), ("less", 1, 9, 10), ("alike",), ("alike",))

    def judged(self, paper, value=None, entries=ENTRIES):
        return unchanged(self, judge_winner, entries, winner(self.ENTRIES) if value is None else value, paper)

    def changed(self, index, row):
        return self.ROWS[:index] + (row,) + self.ROWS[index + 1:]

    def test_each_index_of_the_greatest_key(self):
        self.assertEqual(reasons(self.ENTRIES), (0, self.ROWS))
        for index, told in ((0, True), (2, True), (1, False), (3, False), (-2, False), (4, False), (-4, False)):
            self.assertIs(self.judged((index, self.ROWS)), told, index)

    def test_wrong_parts(self):
        for row in (
                ("less", 0, 9, 10), ("less", 2, 9, 10), ("less", 1, 9, 11), ("less", 1, 8, 10), ("less", 1, 10, 9),
                ("less", -5, 9, 10), ("less", 1, None, 10), ("less", 1, 9, "10"), ("more", 1, 9, 10)):
            self.assertIs(self.judged((0, self.changed(1, row))), False, row)

    def test_wrong_rows(self):
        for index, row in (
                (0, ("less", 1, 9, 10)), (1, ("alike",)), (0, ("alike", 1)), (0, ()), (1, ("less",)), (1, ("less", 1)),
                (1, ("less", 1, 9)), (1, ("less", 1, 9, 10, 0)), (0, ["alike"]), (1, ["less", 1, 9, 10]), (0, "alike"),
                (0, None), (3, ("less", 1, 3, 10)), (3, ()), (1, ()), (1, 1)):
            self.assertIs(self.judged((0, self.changed(index, row))), False, (index, row))
        for rows in (self.ROWS[:-1], self.ROWS[1:], self.ROWS + (("alike",),), (), list(self.ROWS), None, 4):
            self.assertIs(self.judged((0, rows)), False, rows)

    def test_another_entry(self):
        for value in self.ENTRIES + [gone(), entry(name="b"), entry(vector=((1, 4), (3, 2)))]:
            self.assertIs(self.judged((0, self.ROWS), value), False)
        self.assertEqual(parts_of(winner(self.ENTRIES)), parts_of(entry(vector=((1, 4), (3, 1)))))
        for value in (1, "a", (), parts_of(winner(self.ENTRIES))):
            self.assertIs(self.judged((0, self.ROWS), value), False)

    def test_truth_values(self):
        self.assertIs(self.judged((False, self.ROWS)), False)
        self.assertIs(self.judged((0, self.changed(1, ("less", True, 9, 10)))), False)
        # The parts are compared by ==, so True is equal to 1 there.
        entries = [gone(), entry()]
        rows = (("less", 2, False, True), ("alike",))
        self.assertIs(judge_winner(entries, winner(entries), (1, rows)), True)
        self.assertIs(judge_winner(entries, winner(entries), (True, rows)), False)
        counts = entry(maker=(1, 4), vector=((2, 9),), blocks=(354,))
        entries = [counts, entry()]
        row = reasons(entries)[1][0]
        self.assertEqual(row[1], 5)
        self.assertIs(judge_winner(entries, winner(entries), (1, (row, ("alike",)))), True)
        listed = (*row[:2], list(row[2]), row[3])
        self.assertIs(judge_winner(entries, winner(entries), (1, (listed, ("alike",)))), False)

    def test_other_values(self):
        for paper in OTHERS + (
                (0,), (0, self.ROWS, 0), [0, self.ROWS], ("0", self.ROWS), (None, self.ROWS), (0.0, self.ROWS),
                (self.ROWS, 0), {0: self.ROWS}, ((0,), self.ROWS)):
            self.assertIs(self.judged(paper), False, paper)

    def test_the_papers_of_other_entries(self):
        values = [entry(), entry(height=2, blocks=(354,)), gone(height=2), entry(height=3)]
        for entries in itertools.product(values, repeat=3):
            for others in itertools.product(values, repeat=3):
                told = judge_winner(list(entries), winner(list(entries)), reasons(list(others)))
                self.assertEqual(told, reasons(list(entries)) == reasons(list(others)) or self.same(entries, others))

    def same(self, entries, others):
        # Another index of an equal greatest key is taken, too.
        (first, rows), (second, further) = reasons(list(entries)), reasons(list(others))
        return rows == further and key_of(entries[first]) == key_of(entries[second])


class Unlike(unittest.TestCase):
    def assert_unlike(self, first, second, expected):
        before = state(first), state(second)
        self.assertEqual((unlike(first, second), unlike(second, first)), (expected, expected))
        self.assertIs(are_alike(first, second), expected is None)
        self.assertEqual((state(first), state(second)), before)

    def test_alike(self):
        self.assert_unlike(device_of(), device_of(), None)
        self.assert_unlike(
            device_of({"a": (A, 3)}, [own(has(A), 4)]),
            device_of({"a": (A, 9)}, [own(has(A), 7), peer(2, wants(B))], [("q", (), D)], number=2), None)

    def test_files(self):
        first = device_of({"a": A, "b": B, "c": C})
        for files, name in (
                ({"a": A, "b": B}, "c"), ({"b": B}, "a"), ({"a": A, "b": D, "c": D}, "b"), ({}, "a"),
                ({"B": B, "a": A, "b": B, "c": C}, "B"), ({"a": A, "b": B, "c": C, "d": D}, "d"),
                ({"a": A, "b": [], "c": C}, "b")):
            self.assert_unlike(first, device_of(files), ("file", name))

    def test_files_ahead_of_entries(self):
        first = device_of({"z": A}, [own(has(A), 1)])
        self.assert_unlike(first, device_of({"z": B}), ("file", "z"))
        self.assert_unlike(first, device_of({"z": A}), ("entry", "a"))

    def test_entries(self):
        values = [has(A), has(A, name="b"), gone(name="c", vector=((1, 3),), maker=(1, 3))]
        first = device_of({"a": A}, [own(value, at + 1) for at, value in enumerate(values)])
        for others, name in (
                (values[:2], "c"), (values[1:], "a"), ([values[0], values[2]], "b"), ([], "a"),
                (values + [has(A, name="B")], "B"), ([values[0], has(A, name="b", time=11), values[2]], "b"),
                ([values[0], has(A, name="b", height=2)], "b")):
            second = device_of({"a": A}, [own(value, at + 1) for at, value in enumerate(others)])
            self.assert_unlike(first, second, ("entry", name))

    def test_of_edits(self):
        first = edited(None, "a", 1, 1, False, 10, (353,))
        later = edited(first, "a", 2, 1, False, 11, (353,))
        self.assert_unlike(device_of({}, [own(first)]), device_of({}, [own(later)]), ("entry", "a"))
