"""Explaining how own entries became what they are (chapter 18)."""

import random
import unittest

from folderkin.entries import Entry, alike, copy_name, copy_of, edited
from folderkin.explaining import carriers, gone, judge_story, made_by, number_of, story
from folderkin.vectors import compare
from tests.drawing import drawn_command, drawn_world
from tests.rigs import A, B, C, has, unchanged, wants
from tests.samples import entry
from tests.samples import gone as deleted
from tests.test_judging import OTHERS, world_of

# A content of device 1, which device 2 takes and edits; device 1 takes that, and both make another file.
FIRST = edited(None, "a", 1, 1, False, 10, (353,))
LATER = edited(FIRST, "a", 2, 2, False, 11, (354,))
THIRD = edited(LATER, "a", 1, 3, True, 12, ())
MINE = edited(None, "b", 1, 4, False, 13, (355,))
HISTORY = [
    (1, "edit", None, FIRST), (2, "take", None, FIRST), (2, "edit", FIRST, LATER), (1, "take", FIRST, LATER),
    (1, "edit", LATER, THIRD), (2, "take", LATER, THIRD), (1, "edit", None, MINE)]


def histories(many, seed=0, steps=60):
    """Histories of drawn worlds, with power cuts."""
    for at in range(seed, seed + many):
        rng = random.Random(at)
        world = drawn_world(rng)
        for _ in range(steps):
            world.obey(drawn_command(rng, world))
        yield world.history()


class Numbers(unittest.TestCase):
    def test_number_of(self):
        self.assertEqual([number_of(HISTORY, index) for index in range(7)], [1, 1, 2, 2, 3, 3, 4])
        unchanged(self, number_of, HISTORY, 3)

    def test_they_are_those_of_the_records(self):
        edits = 0
        for history in histories(40):
            for index, row in enumerate(history):
                if row[1] == "edit":
                    edits += 1
                    self.assertEqual(row[3].maker, (row[0], number_of(history, index)))
                if row[1] in ("copy", "edit"):
                    self.assertIn((row[0], number_of(history, index)), row[3].vector)
        self.assertGreater(edits, 200)

    def test_made_by(self):
        for maker, index in (((1, 1), 0), ((2, 2), 2), ((1, 3), 4), ((1, 4), 6)):
            self.assertEqual(unchanged(self, made_by, HISTORY, maker), index)
        # No such row, or its new entry has another maker.
        for maker in ((1, 5), (2, 1), (1, 2), (2, 3), (2, 4), (3, 1), (9, 9)):
            self.assertEqual(made_by(HISTORY, maker), -1)
        self.assertEqual(made_by([], (1, 1)), -1)

    def test_made_by_over_drawn_histories(self):
        for history in histories(30, 100):
            numbers = {(row[0], number_of(history, index)): index for index, row in enumerate(history)}
            for device in range(1, 5):
                for number in range(0, 40):
                    index = numbers.get((device, number), -1)
                    if index >= 0 and history[index][3].maker != (device, number):
                        index = -1
                    self.assertEqual(made_by(history, (device, number)), index)


class Stories(unittest.TestCase):
    def test_stories(self):
        for index, expected in ((0, [0]), (1, [0]), (2, [2, 0]), (3, [2, 0]), (4, [4, 2, 0]), (5, [4, 2, 0]), (6, [6])):
            found = unchanged(self, story, HISTORY, HISTORY[index][3])
            self.assertEqual(found, expected)
            self.assertIs(unchanged(self, judge_story, HISTORY, HISTORY[index][3], found), True)

    def test_no_edit_with_the_maker(self):
        self.assertEqual(story(HISTORY, entry(maker=(3, 3))), [])
        self.assertEqual(story([], FIRST), [])
        # The story ends where an edit is lacking.
        partly = HISTORY[:2] + [(2, "edit", entry(maker=(5, 5)), edited(FIRST, "a", 2, 2, False, 9, (9,)))]
        self.assertEqual(story(partly, partly[2][3]), [2])
        self.assertIs(judge_story(partly, partly[2][3], [2]), False)
        self.assertIs(judge_story(HISTORY, entry(maker=(3, 3)), []), False)

    def test_a_copy_and_what_was_found(self):
        history = [(1, "edit", None, has(A)), (1, "copy", None, copy_of(has(A), 1, 2))]
        self.assertEqual(story(history, history[1][3]), [0])
        self.assertIs(judge_story(history, history[1][3], [0]), True)
        # The word does not matter, but the maker does.
        later = edited(history[1][3], "a~1-1", 1, 3, False, 9, (256,))
        history.append((1, "found", history[1][3], later))
        self.assertEqual(story(history, later), [2, 0])

    def test_each_entry_of_drawn_histories(self):
        longest = 0
        for history in histories(40, 200):
            for row in history:
                found = unchanged(self, story, history, row[3])
                self.assertIs(type(found), list)
                self.assertTrue(found)
                self.assertEqual(found, sorted(found, reverse=True))
                self.assertEqual(len(found), len(set(found)))
                self.assertTrue(alike(history[found[0]][3], row[3]))
                self.assertIsNone(history[found[-1]][2])
                for first, second in zip(found, found[1:]):
                    self.assertEqual(history[second][3].maker, history[first][2].maker)
                self.assertIs(judge_story(history, row[3], found), True)
                longest = max(longest, len(found))
        self.assertGreater(longest, 3)

    def test_new_lists(self):
        story(HISTORY, LATER).clear()
        self.assertEqual(story(HISTORY, LATER), [2, 0])


class JudgingStories(unittest.TestCase):
    def judged(self, paper, value=THIRD):
        return unchanged(self, judge_story, HISTORY, value, paper)

    def test_changed_ones(self):
        self.assertIs(self.judged([4, 2, 0]), True)
        for paper in ([4, 2], [2, 0], [4, 0], [4], [0], [], [4, 2, 0, 0], [4, 4, 2, 0], [4, 2, 2, 0], [2, 4, 0],
                [0, 2, 4],
                      [4, 0, 2], [4, 2, 1], [4, 3, 0], [5, 2, 0], [6, 2, 0], [4, 2, 7], [4, 2, -7], [-3, 2, 0],
                      [-1, 2, 0],
                      [4, 2, 0, 6], [4, 2, 99], [99], [-1]):
            self.assertIs(self.judged(paper), False, paper)

    def test_truth_values(self):
        self.assertIs(self.judged([4, 2, False]), False)
        history = [(2, "take", None, FIRST)] + HISTORY
        self.assertIs(judge_story(history, FIRST, [1]), True)
        self.assertIs(judge_story(history, FIRST, [True]), False)

    def test_other_values(self):
        for paper in OTHERS + ((4, 2, 0), "420", {4: 1, 2: 1, 0: 1}, [4, 2, "0"], [4, 2, None], [4, [2], 0],
                [(4,), 2, 0],
                               [4, 2, 0.0], [[4, 2, 0]]):
            self.assertIs(self.judged(paper), False, paper)

    def test_another_entry(self):
        self.assertIs(self.judged([4, 2, 0], LATER), False)
        self.assertIs(self.judged([2, 0], LATER), True)
        # The edit must be alike to the entry whose turn it is.
        other = Entry("a", LATER.vector, 2, LATER.maker, False, 11, (399,))
        self.assertEqual(story(HISTORY, other), [2, 0])
        self.assertIs(self.judged([2, 0], other), False)
        history = [HISTORY[0], (1, "edit", other, edited(other, "a", 1, 2, False, 3, (7,)))]
        self.assertIs(judge_story(history, history[1][3], story(history, history[1][3])), False)
        # All else of it does not count.
        same = Entry("z", ((9, 9),), 8, LATER.maker, False, 99, LATER.blocks)
        self.assertIs(self.judged([2, 0], same), True)

    def test_drawn_ones(self):
        rng = random.Random(5)
        for history in histories(20, 300, 40):
            for row in history:
                told = story(history, row[3])
                for _ in range(4):
                    paper = list(told)
                    kind = rng.randrange(5)
                    at = rng.randrange(len(paper))
                    if kind == 0:
                        paper[at] = rng.randrange(-2, len(history) + 2)
                    elif kind == 1:
                        del paper[at]
                    elif kind == 2:
                        paper.insert(at, paper[at])
                    elif kind == 3:
                        other = rng.randrange(len(paper))
                        paper[at], paper[other] = paper[other], paper[at]
                    else:
                        paper.append(rng.randrange(len(history)))
                    self.assertIs(judge_story(history, row[3], paper), paper == told)


class Carriers(unittest.TestCase):
    def test_carriers(self):
        for maker, expected in (
                ((1, 1), [(1, 0), (2, 1)]), ((2, 2), [(2, 2), (1, 3)]), ((1, 3), [(1, 4), (2, 5)]), ((1, 4), [(1, 6)]),
                ((3, 1), []), ((2, 1), [])):
            found = unchanged(self, carriers, HISTORY, maker)
            self.assertEqual(found, expected)
            self.assertTrue(all(type(pair) is tuple for pair in found))
        carriers(HISTORY, (1, 1)).clear()
        self.assertEqual(len(carriers(HISTORY, (1, 1))), 2)

    def test_a_copy_carries_too(self):
        history = [(1, "edit", None, has(A)), (2, "copy", None, copy_of(has(A), 2, 1)), (1, "join", has(A), has(A))]
        self.assertEqual(carriers(history, (1, 1)), [(1, 0), (2, 1)])

    def test_drawn_ones(self):
        for history in histories(20, 400):
            for row in history:
                rows = [at for at, other in enumerate(history) if other[3].maker == row[3].maker]
                expected = {}
                for at in rows:
                    expected.setdefault(history[at][0], at)
                self.assertEqual(carriers(history, row[3].maker), list(expected.items()))


class Gone(unittest.TestCase):
    def assert_gone(self, history, index, expected):
        self.assertEqual(unchanged(self, gone, history, index), expected)

    def test_the_rows_above(self):
        for index, expected in ((0, ("below", 3)), (1, ("edit", 2)), (2, ("below", 5)), (3, ("edit", 4)),
                (4, ("stays", -1)),
                                (5, ("stays", -1)), (6, ("stays", -1))):
            self.assert_gone(HISTORY, index, expected)

    def test_stays(self):
        # Rows of other devices and other names, and earlier ones, do not count.
        history = [(1, "edit", None, has(B)), (1, "edit", has(B), has(A)), (2, "take", None, wants(B)),
                   (1, "take", None, wants(B, name="b"))]
        self.assert_gone(history, 1, ("stays", -1))

    def test_alike(self):
        history = [(1, "edit", None, has(A)), (1, "join", has(A), wants(A, maker=(1, 2)))]
        self.assert_gone(history, 0, ("alike", 1))
        history = [(1, "edit", None, deleted()), (1, "take", deleted(), deleted(height=4))]
        self.assert_gone(history, 0, ("alike", 1))

    def test_edit(self):
        history = [(1, "edit", None, deleted()), (1, "edit", deleted(), edited(deleted(), "a", 1, 2, False, 1, (256,)))]
        self.assert_gone(history, 0, ("edit", 1))
        # The maker is the device with the number of the next row, whatever its word is.
        history = [(1, "edit", None, has(A)), (2, "edit", None, has(A)), (1, "found", has(A), has(B, maker=(1, 2)))]
        self.assert_gone(history, 0, ("edit", 2))
        history = [(1, "edit", None, has(A)), (1, "found", has(A), has(B, maker=(2, 2), vector=((1, 1), (2, 2))))]
        self.assert_gone(history, 0, ("below", 1))

    def test_removed(self):
        history = [(1, "edit", None, deleted()), (1, "take", deleted(), wants(A, vector=((1, 4), (2, 1))))]
        self.assert_gone(history, 0, ("removed", 1))
        history[1] = (1, "take", deleted(), wants(A))
        self.assert_gone(history, 0, ("removed", 1))

    def test_below(self):
        history = [(1, "edit", None, has(A)), (1, "take", has(A), wants(B, vector=((1, 1), (2, 5))))]
        self.assert_gone(history, 0, ("below", 1))

    def test_copy(self):
        copy = copy_of(has(A), 1, 2)
        rows = [(1, "edit", None, has(A)), (1, "copy", None, copy), (1, "take", has(A), wants(B))]
        self.assert_gone(rows, 0, ("copy", 1))
        # The last one ahead of the next row counts, whatever it is; those behind it do not.
        further = edited(copy, copy.name, 1, 3, True, 9, ())
        history = rows[:2] + [(1, "edit", copy, further), (2, "copy", None, copy)] + rows[2:] + [rows[1]]
        self.assert_gone(history, 0, ("copy", 2))
        # It may stand ahead of the row of E.
        history = [rows[1], rows[0], (2, "take", None, wants(B)), rows[2]]
        self.assert_gone(history, 1, ("copy", 0))

    def test_its_own_copy_name(self):
        first = has(A, name="a~1-1")
        self.assertEqual(copy_name(first), first.name)
        history = [(1, "edit", None, first), (2, "edit", None, has(C)), (1, "take", first, wants(B, name="a~1-1"))]
        self.assert_gone(history, 0, ("copy", 0))
        later = has(B, name="a~1-1", vector=((1, 9),))
        history = [(1, "edit", None, later), (1, "take", later, first), (1, "take", first, wants(B, name="a~1-1"))]
        self.assert_gone(history, 1, ("copy", 1))

    def test_known(self):
        history = [(1, "edit", None, has(A)), (2, "copy", None, copy_of(has(A), 2, 1)), (1, "take", has(A), wants(B)),
                   (1, "take", None, copy_of(has(A), 2, 1))]
        self.assert_gone(history, 0, ("known", 2))

    def test_drawn_ones(self):
        words = {}
        for history in histories(150, 500):
            for index in range(len(history)):
                found = gone(history, index)
                self.assertEqual(found, self.plain_gone(history, index))
                words[found[0]] = words.get(found[0], 0) + 1
        self.assertEqual(sorted(words), ["alike", "below", "copy", "edit", "known", "removed", "stays"])

    def plain_gone(self, history, index):
        """Point 18.6, word by word."""
        device, _, _, value = history[index]
        rows = [at for at in range(index + 1, len(history)) if history[at][0] == device]
        following = [at for at in rows if history[at][3].name == value.name]
        if not following:
            return ("stays", -1)
        at, after = following[0], history[following[0]][3]
        ahead = [row for row in range(at) if history[row][0] == device]
        copies = [row for row in ahead if history[row][3].name == copy_name(value)]
        tests = [
            ("alike", alike(value, after)), ("edit", after.maker == (device, len(ahead) + 1)),
            ("removed", value.deleted),
            ("below", compare(value.vector, after.vector) == "less"), ("copy", bool(copies)), ("known", True)]
        word = [name for name, told in tests if told][0]
        return (word, copies[-1]) if word == "copy" else (word, at)

    def test_worlds(self):
        world = world_of(
            ("edit", 1, "a", tuple(A), 1), ("edit", 2, "a", tuple(B), 2), ("round", 3), ("round", 4),
            ("remove", 2, "a"),
            ("round", 5))
        history = world.history()
        self.assertEqual([row[:2] for row in history], [
            (1, "edit"), (2, "edit"), (1, "copy"), (1, "take"), (2, "take"), (2, "edit"), (1, "take")])
        self.assertEqual([gone(history, index) for index in range(7)], [
            ("copy", 2), ("edit", 5), ("stays", -1), ("below", 6), ("stays", -1), ("stays", -1), ("stays", -1)])
