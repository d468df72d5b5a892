"""Lines (chapter 09)."""

import itertools
import random
import unittest
from collections import Counter
from copy import deepcopy

from folderkin.lines import Lines

WORDS = ("sent", "taken", "doubled", "lost", "waiting")


def totals(lines):
    return [lines.total(word) for word in WORDS]


def filled(letters, cut=False):
    """Lines of 3 devices, with these letters waiting from 2 to 3."""
    lines = Lines(3)
    for letter in letters:
        lines.send(2, 3, letter)
    if cut:
        lines.cut(2, 3)
    return lines


class Joining(unittest.TestCase):
    def test_at_first_all_are_joined(self):
        for count in (1, 2, 3, 9):
            lines = Lines(count)
            for first, second in itertools.permutations(range(1, count + 1), 2):
                self.assertIs(lines.is_joined(first, second), True)
                self.assertEqual(lines.waiting(first, second), [])
            self.assertEqual(totals(lines), [0] * 5)
            self.assertIs(lines.connected(), True)

    def test_cutting_and_joining_in_either_order(self):
        for count in (2, 3, 9):
            for first, second in itertools.permutations(range(1, count + 1), 2):
                lines = Lines(count)
                for row in ((first, second), (second, first), (first, second)):
                    self.assertIsNone(lines.cut(*row))
                    self.assertIs(lines.is_joined(first, second), False)
                    self.assertIs(lines.is_joined(second, first), False)
                    others = [pair for pair in itertools.permutations(range(1, count + 1), 2) if not lines.is_joined(
                        *pair)]
                    self.assertEqual(len(others), 2)
                for row in ((second, first), (first, second), (second, first)):
                    self.assertIsNone(lines.join(*row))
                    self.assertIs(lines.is_joined(first, second), True)
                    self.assertIs(lines.is_joined(second, first), True)

    def test_joining_what_is_joined(self):
        lines = Lines(2)
        self.assertIsNone(lines.join(1, 2))
        self.assertIs(lines.is_joined(1, 2), True)
        lines.cut(1, 2)
        self.assertIs(lines.is_joined(1, 2), False)


class Sending(unittest.TestCase):
    def test_over_a_joined_line(self):
        lines = Lines(2)
        self.assertIs(lines.send(1, 2, [5]), True)
        self.assertIs(lines.send(1, 2, []), True)
        self.assertIs(lines.send(1, 2, [6, 7]), True)
        self.assertEqual(lines.waiting(1, 2), [[5], [], [6, 7]])
        self.assertEqual(totals(lines), [3, 0, 0, 0, 3])

    def test_over_a_cut_line(self):
        lines = Lines(3)
        lines.cut(1, 2)
        self.assertIs(lines.send(1, 2, [5]), False)
        self.assertIs(lines.send(2, 1, []), False)
        self.assertEqual((lines.waiting(1, 2), lines.waiting(2, 1)), ([], []))
        self.assertEqual(totals(lines), [2, 0, 0, 2, 0])
        self.assertIs(lines.send(1, 3, [5]), True)
        lines.join(2, 1)
        self.assertIs(lines.send(1, 2, [6]), True)
        self.assertEqual(lines.waiting(1, 2), [[6]])
        self.assertEqual(totals(lines), [4, 0, 0, 2, 2])

    def test_directions_are_on_their_own(self):
        for count in (2, 9):
            lines = Lines(count)
            pairs = list(itertools.permutations(range(1, count + 1), 2))
            for first, second in pairs:
                lines.send(first, second, [first, second])
            for first, second in pairs:
                self.assertEqual(lines.waiting(first, second), [[first, second]])
            lines.double(1, 2, 0)
            lines.send(2, 1, [8])
            lines.swap(2, 1, 0)
            lines.drop(1, 2, 0)
            self.assertEqual((lines.waiting(1, 2), lines.waiting(2, 1)), ([[1, 2]], [[8], [2, 1]]))
            self.assertEqual(lines.take(2, 1, 0), [8])
            self.assertEqual((lines.waiting(1, 2), lines.waiting(2, 1)), ([[1, 2]], [[2, 1]]))
            for first, second in pairs:
                self.assertEqual(lines.waiting(first, second), [[first, second]])
                self.assertEqual(lines.take(first, second, 0), [first, second])
                self.assertEqual(lines.waiting(first, second), [])
            self.assertEqual(totals(lines), [len(pairs) + 1, len(pairs) + 1, 1, 1, 0])


class Waiting(unittest.TestCase):
    LETTERS = [[1], [], [3, 3], [4]]

    def test_taking(self):
        for index in range(4):
            lines = filled(self.LETTERS)
            self.assertEqual(lines.take(2, 3, index), self.LETTERS[index])
            self.assertEqual(lines.waiting(2, 3), self.LETTERS[:index] + self.LETTERS[index + 1:])
            self.assertEqual(totals(lines), [4, 1, 0, 0, 3])

    def test_taking_in_any_order(self):
        for order in itertools.permutations(range(3)):
            lines = filled([[0], [1], [2]])
            left = [0, 1, 2]
            for value in order:
                self.assertEqual(lines.take(2, 3, left.index(value)), [value])
                left.remove(value)
            self.assertIsNone(lines.take(2, 3, 0))

    def test_dropping(self):
        for index in range(4):
            for cut in (False, True):
                lines = filled(self.LETTERS, cut)
                self.assertIs(lines.drop(2, 3, index), True)
                self.assertEqual(lines.waiting(2, 3), self.LETTERS[:index] + self.LETTERS[index + 1:])
                self.assertEqual(totals(lines), [4, 0, 0, 1, 3])

    def test_doubling(self):
        for index in range(4):
            for cut in (False, True):
                lines = filled(self.LETTERS, cut)
                self.assertIs(lines.double(2, 3, index), True)
                self.assertEqual(lines.waiting(2, 3), self.LETTERS + [self.LETTERS[index]])
                self.assertEqual(totals(lines), [4, 0, 1, 0, 5])

    def test_swapping(self):
        for index in range(3):
            for cut in (False, True):
                lines = filled(self.LETTERS, cut)
                self.assertIs(lines.swap(2, 3, index), True)
                expected = list(self.LETTERS)
                expected[index], expected[index + 1] = expected[index + 1], expected[index]
                self.assertEqual(lines.waiting(2, 3), expected)
                self.assertEqual(totals(lines), [4, 0, 0, 0, 4])

    def test_indexes_of_no_letter(self):
        for letters in ([], [[7]], self.LETTERS):
            for cut in (False, True):
                lines = filled(letters, cut)
                before = totals(lines)
                for index in (-1, -2, -len(letters), len(letters), len(letters) + 1, 1000, -1000):
                    if 0 <= index < len(letters):
                        continue
                    self.assertIsNone(lines.take(2, 3, index))
                    self.assertIs(lines.drop(2, 3, index), False)
                    self.assertIs(lines.double(2, 3, index), False)
                    self.assertIs(lines.swap(2, 3, index), False)
                # The last one has no next one; the first one is the next one of none.
                self.assertIs(lines.swap(2, 3, len(letters) - 1), False)
                self.assertIs(lines.swap(2, 3, -1), False)
                self.assertEqual(lines.waiting(2, 3), letters)
                self.assertEqual(totals(lines), before)

    def test_over_a_cut(self):
        lines = filled(self.LETTERS, cut=True)
        for index in range(-1, 5):
            self.assertIsNone(lines.take(2, 3, index))
        self.assertEqual(lines.waiting(2, 3), self.LETTERS)
        lines.send(2, 3, [9])
        self.assertEqual(lines.waiting(2, 3), self.LETTERS)
        self.assertEqual(totals(lines), [5, 0, 0, 1, 4])
        lines.join(3, 2)
        self.assertEqual(lines.waiting(2, 3), self.LETTERS)
        self.assertEqual([lines.take(2, 3, 0) for _ in range(5)], self.LETTERS + [None])

    def test_a_cut_of_another_line(self):
        lines = filled(self.LETTERS)
        lines.cut(1, 2)
        lines.cut(1, 3)
        self.assertEqual(lines.take(2, 3, 3), [4])


class Copying(unittest.TestCase):
    def test_what_is_passed(self):
        lines, data = Lines(2), [1, 2]
        lines.send(1, 2, data)
        self.assertEqual(data, [1, 2])
        data.append(3)
        self.assertEqual(lines.waiting(1, 2), [[1, 2]])
        lines.take(1, 2, 0).append(4)
        self.assertEqual(data, [1, 2, 3])

    def test_what_is_returned(self):
        lines = filled([[1], [2]])
        lines.double(2, 3, 0)
        found = lines.waiting(2, 3)
        found[0].append(9)
        found.pop()
        self.assertEqual(lines.waiting(2, 3), [[1], [2], [1]])
        lines.take(2, 3, 0).append(9)
        self.assertEqual(lines.waiting(2, 3), [[2], [1]])
        lines.reached_from(1).clear()
        self.assertEqual(lines.reached_from(1), [1, 2, 3])

    def test_lines_share_nothing(self):
        first, second = filled([[1]]), filled([[1]])
        second.cut(2, 3)
        second.drop(2, 3, 0)
        second.send(1, 2, [5])
        self.assertEqual((totals(first), first.is_joined(2, 3)), ([1, 0, 0, 0, 1], True))


class Reaching(unittest.TestCase):
    def lines_of(self, count, joined):
        """Lines of which these alone are joined."""
        lines = Lines(count)
        for first, second in itertools.combinations(range(1, count + 1), 2):
            if (first, second) not in joined and (second, first) not in joined:
                lines.cut(first, second)
        return lines

    def assert_groups(self, count, joined, groups):
        lines = self.lines_of(count, joined)
        for group in groups:
            for device in group:
                self.assertEqual(lines.reached_from(device), group)
        self.assertIs(lines.connected(), len(groups) == 1)

    def test_one_device(self):
        self.assert_groups(1, [], [[1]])

    def test_two_devices(self):
        self.assert_groups(2, [], [[1], [2]])
        self.assert_groups(2, [(1, 2)], [[1, 2]])

    def test_nine_devices(self):
        numbers = list(range(1, 10))
        self.assert_groups(9, [], [[device] for device in numbers])
        self.assert_groups(9, list(itertools.combinations(numbers, 2)), [numbers])
        row = [(device, device + 1) for device in range(1, 9)]
        self.assert_groups(9, row, [numbers])
        self.assert_groups(9, row + [(1, 9)], [numbers])
        self.assert_groups(9, [pair for pair in row if pair != (4, 5)], [[1, 2, 3, 4], [5, 6, 7, 8, 9]])
        self.assert_groups(9, [(1, 9), (9, 2), (2, 8), (8, 3)], [[1, 2, 3, 8, 9], [4], [5], [6], [7]])
        self.assert_groups(9, [(device, 9) for device in range(1, 9)], [numbers])
        self.assert_groups(9, [(9, 8), (8, 7), (7, 6), (6, 5), (5, 4), (4, 3), (3, 2)], [[1], list(range(2, 10))])

    def test_the_first_device_alone(self):
        self.assert_groups(3, [(2, 3)], [[1], [2, 3]])

    def test_rings(self):
        for cut in range(5):
            ring = [(device, device % 5 + 1) for device in range(1, 6)]
            del ring[cut]
            self.assert_groups(5, ring, [[1, 2, 3, 4, 5]])

    def test_any_lines(self):
        rng = random.Random(1)
        for _ in range(150):
            count = rng.randint(1, 9)
            joined = [pair for pair in itertools.combinations(range(1, count + 1), 2) if rng.random() < 0.25]
            group = {device: {device} for device in range(1, count + 1)}
            for first, second in joined:
                union = group[first] | group[second]
                for device in union:
                    group[device] = union
            groups = sorted({tuple(sorted(one)) for one in group.values()})
            self.assert_groups(count, joined, [list(one) for one in groups])

    def test_letters_do_not_count(self):
        lines = self.lines_of(3, [(1, 2)])
        lines.send(1, 3, [1])
        lines.send(1, 2, [1])
        self.assertEqual(lines.reached_from(1), [1, 2])
        lines.join(3, 2)
        self.assertEqual(lines.reached_from(1), [1, 2, 3])
        self.assertIs(lines.connected(), True)


class LongRows(unittest.TestCase):
    """Point 09.3, and all calls against a plain list for each direction."""

    def setUp(self):
        self.numbers = dict.fromkeys(WORDS[:4], 0)

    def expected(self, queue, joined, word, index, data):
        """What a call tells, by plain words; the queue is changed."""
        if word == "send":
            self.numbers["sent"] += 1
            self.numbers["lost"] += 0 if joined else 1
            queue.extend([data] if joined else [])
            return joined
        there = 0 <= index < len(queue)
        if word == "take":
            if not there or not joined:
                return None
            self.numbers["taken"] += 1
            return queue.pop(index)
        if word == "drop" and there:
            self.numbers["lost"] += 1
            queue.pop(index)
        if word == "double" and there:
            self.numbers["doubled"] += 1
            queue.append(queue[index])
        if word == "swap":
            there = there and index + 1 < len(queue)
            if there:
                queue.insert(index, queue.pop(index + 1))
        return there

    def run_calls(self, rng, count, calls):
        lines = Lines(count)
        queues = {pair: [] for pair in itertools.permutations(range(1, count + 1), 2)}
        sent = {pair: Counter() for pair in queues}
        doubled, taken, cuts = deepcopy(sent), deepcopy(sent), set()
        for _ in range(calls):
            pair = rng.choice(sorted(queues))
            word = rng.choice(["send", "send", "send", "take", "drop", "double", "swap", "cut", "join", "join"])
            if word in ("cut", "join"):
                getattr(lines, word)(*pair)
                (cuts.add if word == "cut" else cuts.discard)(frozenset(pair))
            else:
                index, data = rng.randint(-2, len(queues[pair]) + 1), [rng.randrange(3)] * rng.randrange(3)
                waits = list(queues[pair])
                joined = frozenset(pair) not in cuts
                expected = self.expected(queues[pair], joined, word, index, data)
                found = getattr(lines, word)(*pair, *([data] if word == "send" else [index]))
                self.assertEqual(found, expected)
                sent[pair][str(data)] += word == "send"
                if word == "double" and found:
                    doubled[pair][str(waits[index])] += 1
                if word == "take" and found is not None:
                    taken[pair][str(found)] += 1
                    self.assertLessEqual(taken[pair][str(found)], sent[pair][str(found)] + doubled[pair][str(found)])
            for other in queues:
                self.assertEqual(lines.waiting(*other), queues[other])
            numbers = [self.numbers[name] for name in WORDS[:4]] + [sum(map(len, queues.values()))]
            self.assertEqual(totals(lines), numbers)
            self.assertEqual(numbers[0] + numbers[2], numbers[1] + numbers[3] + numbers[4])

    def test_two_devices(self):
        self.run_calls(random.Random(2), 2, 1500)

    def test_three_devices(self):
        self.run_calls(random.Random(3), 3, 1500)

    def test_nine_devices(self):
        self.run_calls(random.Random(4), 9, 800)

    def test_each_letter_is_taken_once_more_often_than_it_was_doubled(self):
        # Each letter tells which one it is.
        rng = random.Random(5)
        lines = Lines(2)
        doubled, taken = Counter(), Counter()
        for number in range(600):
            lines.send(1, 2, [number % 256, number // 256])
            for _ in range(rng.randrange(3)):
                waits = lines.waiting(1, 2)
                index = rng.randrange(len(waits) + 1)
                if rng.random() < 0.4:
                    if lines.double(1, 2, index):
                        doubled[tuple(waits[index])] += 1
                else:
                    letter = lines.take(1, 2, index)
                    if letter is not None:
                        taken[tuple(letter)] += 1
                        self.assertLessEqual(taken[tuple(letter)], 1 + doubled[tuple(letter)])
        while lines.waiting(1, 2):
            taken[tuple(lines.take(1, 2, 0))] += 1
        self.assertEqual(taken, Counter({key: 1 + doubled[key] for key in taken}))
        self.assertEqual(len(taken), 600)
