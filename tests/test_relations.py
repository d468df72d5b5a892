import random
import unittest

from folderkin.comparing import first_difference, is_relation, next_state, relation, start_state
from folderkin.patterns import next_places, parse_patterns, start_places
from tests.helpers import (
    ALIKE, BOUND, PARTED_AT_40, PARTED_AT_41, both, changed, plain_states, plainly_is_relation, random_patterns)


class States(unittest.TestCase):
    def test_before_the_first_character(self):
        self.assertEqual(start_state([]), ())
        self.assertEqual(start_state(parse_patterns("*?\na")), ((0, 1), (0,)))

    def test_behind_one_more_character(self):
        patterns = parse_patterns("*?\na")
        self.assertEqual(next_state(patterns, ((0, 1), (0,)), "a"), ((0, 1, 2), (1,)))
        self.assertEqual(next_state(patterns, ((0, 1), (0,)), "/"), ((), ()))
        self.assertEqual(next_state(patterns, ((1,), (1,)), "a"), ((2,), ()))
        self.assertEqual(next_state([], (), "a"), ())

    def test_they_are_the_places_of_all_patterns(self):
        rng = random.Random(10)
        for _ in range(40):
            patterns = random_patterns(rng, 4)
            state = start_state(patterns)
            self.assertEqual(state, tuple(start_places(pattern) for pattern in patterns))
            for char in "ab/-ab":
                behind = tuple(next_places(*row, char) for row in zip(patterns, state))
                state = next_state(patterns, state, char)
                self.assertEqual(state, behind)


class Relations(unittest.TestCase):
    def test_none_if_a_name_parts_them(self):
        for first, second in (("a", "b"), ("", "?"), ("*.o", "**.o"), ("!a\n*", "*"), PARTED_AT_40):
            self.assertIsNone(relation(*both(first, second)))
            self.assertIsNone(relation(*both(second, first)))

    def test_empty_lists(self):
        self.assertEqual(relation([], []), (((), (), 1),))

    def test_all_states_that_names_lead_to_in_order(self):
        rng = random.Random(11)
        pairs = [both(first, second) for first, second in ALIKE]
        while len(pairs) < 40:
            first = random_patterns(rng, 3, 4)
            second = changed(rng, first)
            if first_difference(first, second) is None:
                pairs.append((first, second))
        for first, second in pairs:
            expected = tuple((*pair, len(name)) for pair, name in plain_states(first, second).items())
            rows = relation(first, second)
            self.assertEqual(rows, expected)
            self.assertTrue(is_relation(first, second, rows))
            self.assertEqual(len({row[:2] for row in rows}), len(rows))

    def test_no_state_behind_40_characters(self):
        first, second = both(*PARTED_AT_41)
        rows = relation(first, second)
        self.assertEqual(max(length for _, _, length in rows), 40)
        self.assertEqual(rows, tuple((*pair, len(name)) for pair, name in plain_states(first, second).items()))
        self.assertTrue(is_relation(first, second, rows))

    def test_lists_at_the_bounds(self):
        first, second = both(BOUND, BOUND)
        rows = relation(first, second)
        self.assertGreater(len(rows), 1000)
        self.assertTrue(is_relation(first, second, rows))
        self.assertTrue(is_relation(first, second, list(reversed(rows))))
        self.assertFalse(is_relation(first, second, rows[:-1]))


class IsRelation(unittest.TestCase):
    def setUp(self):
        self.first, self.second = both("a*\n!b", "a\na[!a]*\naa*")
        self.rows = relation(self.first, self.second)

    def assert_is(self, rows, expected):
        self.assertIs(is_relation(self.first, self.second, rows), expected, rows)
        self.assertIs(plainly_is_relation(self.first, self.second, rows), expected, rows)

    def test_tuples_and_lists_in_any_order(self):
        self.assertGreater(len(self.rows), 3)
        self.assert_is(self.rows, True)
        self.assert_is(list(self.rows), True)
        self.assert_is(self.rows[::-1], True)
        self.assert_is(list(self.rows)[::-1], True)

    def test_each_row_is_needed(self):
        for index in range(len(self.rows)):
            self.assert_is(self.rows[:index] + self.rows[index + 1:], False)
        self.assert_is((), False)
        self.assert_is([], False)

    def test_rows_twice(self):
        self.assert_is(self.rows + self.rows, True)
        for left, right, length in self.rows:
            self.assert_is(self.rows + ((left, right, length + 1),), True)
            self.assert_is(((left, right, 40), *self.rows), True)

    def test_a_row_with_another_length(self):
        for index, (left, right, length) in enumerate(self.rows):
            self.assert_is(self.rows[:index] + ((left, right, length + 1),) + self.rows[index + 1:], False)

    def test_lesser_lengths_ask_for_more(self):
        first, second = both("", "!aaa")
        rows = relation(first, second)
        self.assertEqual([length for _, _, length in rows], [1, 1, 2, 3])
        for index in range(4):
            less = rows[:index] + ((*rows[index][:2], 1),) + rows[index + 1:]
            self.assertIs(is_relation(first, second, less), plainly_is_relation(first, second, less))
            more = (*rows, (*rows[index][:2], 1))
            self.assertIs(is_relation(first, second, more), plainly_is_relation(first, second, more))
        least = rows[:2] + ((*rows[2][:2], 1), rows[3])
        self.assertFalse(is_relation(first, second, least))

    def assert_with(self, text, more, expected):
        """Rows of places of the one pattern of two equal lists, beside the relation of these lists."""
        first, second = both(text, text)
        rows = relation(first, second) + tuple(((left,), (right,), length) for left, right, length in more)
        self.assertIs(is_relation(first, second, rows), expected, more)
        self.assertIs(plainly_is_relation(first, second, rows), expected, more)

    def test_lengths_of_40_ask_for_nothing(self):
        self.assert_with("aa", [], True)
        self.assert_with("aa", [((0,), (0,), 40)], True)
        self.assert_with("aa", [((0, 1), (0, 1), 40)], True)
        self.assert_with("aa", [((0, 1), (0, 1), 39)], False)
        self.assert_with("aa", [((0, 1), (0, 1), 40), ((0, 1), (0, 1), 39)], False)
        self.assert_with("aa", [((0, 1), (0, 1), 39), ((1, 2), (1, 2), 40)], True)
        self.assert_with("aa", [((0, 1), (0, 1), 38), ((1, 2), (1, 2), 40)], False)

    def test_states_that_no_name_leads_to(self):
        self.assert_with("*a", [((1,), (1,), 40)], True)
        self.assert_with("*a", [((1,), (1,), 39)], False)
        self.assert_with("*a", [((1,), (1,), 39), ((2,), (2,), 40)], True)
        self.assert_with("*a", [((1,), (1,), 3), ((2,), (2,), 4)], True)
        self.assert_with("*a", [((1,), (1,), 3), ((2,), (2,), 5)], False)
        self.assert_with("*a", [((0,), (1,), 3), ((0, 1), (2,), 4)], False)
        self.assert_with("*", [((0,), (0,), 39)], True)

    def test_a_row_whose_states_part_the_lists(self):
        for text, left, right, expected in (
            ("*a", (2,), (), False), ("*a", (), (2,), False), ("*a", (0, 1, 2), (0, 1), False),
            ("*a", (0, 1, 2), (2,), True), ("*a", (0, 1), (), True), ("!a", (1,), (), True),
        ):
            self.assert_with(text, [(left, right, 40)], expected)

    def test_the_first_pattern_at_its_end_decides(self):
        first, second = both("!a\n*", "!a\n*")
        rows = relation(first, second)
        for left, right, expected in (
            (((1,), (1,)), ((), ()), True), (((), (1,)), ((), ()), False), (((1,), (1,)), ((1,), ()), True),
            (((1,), (1,)), ((), (1,)), False), (((), (0, 1)), ((0,), (1,)), True),
        ):
            self.assertIs(is_relation(first, second, rows + ((left, right, 40),)), expected)

    def test_lists_that_a_name_parts(self):
        first, second = both("a", "b")
        rows = [(*pair, len(name)) for pair, name in plain_states(first, second).items()]
        self.assertFalse(is_relation(first, second, rows))
        first, second = both(*PARTED_AT_40)
        rows = [(*pair, len(name)) for pair, name in plain_states(first, second).items()]
        self.assertFalse(is_relation(first, second, rows))
        self.assertFalse(is_relation(first, second, rows[:-1]))

    def test_against_a_plain_reading(self):
        rng = random.Random(12)
        seen = {True: 0, False: 0}
        for _ in range(60):
            first = random_patterns(rng, 2, 3)
            second = changed(rng, first)
            rows = [(*pair, len(name)) for pair, name in plain_states(first, second).items()]
            if len(rows) > 12:
                continue
            for _ in range(6):
                other = spoiled(rng, rows, first, second)
                expected = plainly_is_relation(first, second, other)
                seen[expected] += 1
                self.assertIs(is_relation(first, second, other), expected, (first, second, other))
        self.assertGreater(min(seen.values()), 20)

    def test_what_is_passed_stays_as_it_was(self):
        rows = list(self.rows)
        is_relation(self.first, self.second, rows)
        self.assertEqual(rows, list(self.rows))
        self.assertEqual((self.first, self.second), both("a*\n!b", "a\na[!a]*\naa*"))


def any_state(rng, patterns):
    """Places of each pattern, which names may lead to or not."""
    return tuple(
        tuple(k for k in range(len(pattern.atoms) + 1) if rng.random() < 0.5) for pattern in patterns)


def spoiled(rng, rows, first, second):
    """The rows in another order, or with something left out, changed or added."""
    rows = list(rows)
    rng.shuffle(rows)
    index = rng.randrange(len(rows))
    left, right, length = rows[index]
    kind = rng.randrange(6)
    if kind == 0:
        del rows[index]
    elif kind == 1:
        rows[index] = (left, right, max(1, length + rng.choice([-1, 1, 2])))
    elif kind == 2:
        rows.insert(rng.randrange(len(rows)), (left, right, rng.randint(1, 5)))
    elif kind == 3:
        rows.append((any_state(rng, first), any_state(rng, second), rng.choice([1, 2, 39, 40])))
    elif kind == 4:
        rows[index] = (any_state(rng, first), right, length)
    return rows
