import itertools
import random
import unittest

from folderkin.names import CHARACTERS
from folderkin.patterns import Pattern, leaves_out, matches, next_places, parse_patterns, start_places
from tests.helpers import (
    ANY_ONE, ANY_RUN, NO_SLASH, PART_RUN, one, plainly_leaves_out, plainly_matches, random_atoms, random_patterns)


def pattern_of(text):
    return parse_patterns(text)[0]


def short_names(chars, most):
    for count in range(1, most + 1):
        for row in itertools.product(chars, repeat=count):
            yield "".join(row)


class Making(unittest.TestCase):
    def test_attributes(self):
        pattern = Pattern([one("a"), ANY_RUN])
        self.assertEqual(pattern.atoms, (("a", False), (CHARACTERS, True)))
        self.assertIs(type(pattern.atoms), tuple)
        self.assertIs(pattern.negated, False)
        self.assertIs(Pattern((one("a"),), True).negated, True)

    def test_a_list_is_copied(self):
        atoms = [one("a"), one("b")]
        pattern = Pattern(atoms)
        atoms.append(ANY_RUN)
        atoms[0] = ANY_ONE
        self.assertEqual(pattern.atoms, (("a", False), ("b", False)))
        self.assertEqual(len(atoms), 3)

    def test_equal(self):
        self.assertTrue(Pattern([one("a")]) == Pattern((one("a"),), False))
        self.assertFalse(Pattern([one("a")]) == Pattern([one("a")], True))
        self.assertFalse(Pattern([one("a")]) == Pattern([one("b")]))
        self.assertFalse(Pattern([one("a")]) == Pattern([one("a"), one("a")]))
        self.assertFalse(Pattern([ANY_RUN]) == Pattern([PART_RUN]))
        self.assertFalse(Pattern([(NO_SLASH, True)]) == Pattern([(NO_SLASH, False)]))
        self.assertTrue(Pattern([one("a")], True) != Pattern([one("a")]))

    def test_no_value_of_another_class_is_equal(self):
        pattern = Pattern([one("a")])
        for other in (None, "a", 1, (("a", False),), [("a", False)], (pattern.atoms, False), {}, object()):
            self.assertFalse(pattern == other)
            self.assertFalse(other == pattern)
            self.assertTrue(pattern != other)


class Matching(unittest.TestCase):
    def test_each_single_character(self):
        for char in CHARACTERS:
            pattern = Pattern([one(char)])
            for other in CHARACTERS:
                self.assertIs(matches(pattern, other), other == char)
                self.assertIs(matches(pattern, char + other), False)

    def test_question_mark(self):
        for char in CHARACTERS:
            self.assertIs(matches(pattern_of("?"), char), char != "/")
        self.assertIs(matches(pattern_of("??"), "ab"), True)
        self.assertIs(matches(pattern_of("??"), "a"), False)
        self.assertIs(matches(pattern_of("??"), "a/"), False)

    def test_sets(self):
        for char in CHARACTERS:
            self.assertIs(matches(pattern_of("[-b-d/]"), char), char in "-bcd/")
            self.assertIs(matches(pattern_of("[!b-d]"), char), char not in "bcd/")

    def test_star_at_each_place(self):
        for text, name, expected in (
            ("*", "a", True), ("*", "abc", True), ("*", "/", False), ("*", "a/b", False),
            ("*b", "b", True), ("*b", "aab", True), ("*b", "/b", False), ("*b", "ba", False),
            ("a*b", "ab", True), ("a*b", "axxb", True), ("a*b", "a/b", False), ("a*b", "aab", True),
            ("b*", "b", True), ("b*", "baa", True), ("b*", "ba/", False), ("b*", "ab", False),
            ("*/*", "/", True), ("*/*", "a/b", True), ("*/*", "a/b/c", False), ("*/*", "ab", False),
        ):
            self.assertIs(matches(pattern_of(text), name), expected, (text, name))

    def test_two_stars_at_each_place(self):
        for text, name, expected in (
            ("**", "a", True), ("**", "/", True), ("**", "a/b/c", True),
            ("**b", "b", True), ("**b", "/b", True), ("**b", "a/ab", True), ("**b", "b/", False),
            ("a**b", "ab", True), ("a**b", "a/b", True), ("a**b", "a/x/b", True), ("a**b", "a/", False),
            ("b**", "b", True), ("b**", "b//", True), ("b**", "/b", False),
            ("**/?", "a/b/c", True), ("**/?", "a/b/", False),
        ):
            self.assertIs(matches(pattern_of(text), name), expected, (text, name))

    def test_long_names(self):
        self.assertIs(matches(pattern_of("a" * 40), "a" * 40), True)
        self.assertIs(matches(pattern_of("a" * 40), "a" * 39), False)
        self.assertIs(matches(pattern_of("*a" * 20), "a" * 40), True)
        self.assertIs(matches(pattern_of("*a" * 20), "a" * 19), False)
        self.assertIs(matches(pattern_of("*a" * 19 + "*b"), "a" * 40), False)

    def test_like_a_plain_reading(self):
        rng = random.Random(1)
        names = list(short_names("ab/", 5)) + ["b-", "-b/", "a~/a", "xyz"]
        for _ in range(150):
            pattern = Pattern(random_atoms(rng, 6))
            for name in rng.sample(names, 60):
                self.assertIs(matches(pattern, name), plainly_matches(pattern.atoms, name), (pattern.atoms, name))

    def test_negated_or_not_is_the_same_for_matching(self):
        self.assertIs(matches(pattern_of("!a*"), "ab"), True)
        self.assertIs(matches(pattern_of("!a*"), "ba"), False)


class LeavingOut(unittest.TestCase):
    def test_an_empty_list(self):
        for name in ("a", "/", "a/b", "~" * 40):
            self.assertIs(leaves_out([], name), False)

    def test_one_pattern(self):
        self.assertIs(leaves_out(parse_patterns("a*"), "ab"), True)
        self.assertIs(leaves_out(parse_patterns("a*"), "b"), False)
        self.assertIs(leaves_out(parse_patterns("!a*"), "ab"), False)
        self.assertIs(leaves_out(parse_patterns("!a*"), "b"), False)

    def test_the_first_one_that_matches_decides(self):
        for text, expected in (
            ("!ab\na*\n**", False), ("a*\n!ab", True), ("c\n!ab\na*", False), ("!c\na*\n!**", True),
            ("!a?\n!b\nab", False), ("b\nc", False), ("!b\n!c", False),
        ):
            self.assertIs(leaves_out(parse_patterns(text), "ab"), expected, text)

    def test_like_a_plain_reading(self):
        rng = random.Random(2)
        names = list(short_names("ab/", 4))
        for _ in range(80):
            patterns = random_patterns(rng, 4)
            for name in rng.sample(names, 30):
                self.assertIs(leaves_out(patterns, name), plainly_leaves_out(patterns, name))

    def test_the_list_stays_as_it_was(self):
        patterns = parse_patterns("a\n!b*\n**")
        before = list(patterns)
        leaves_out(patterns, "bcd")
        self.assertEqual(patterns, before)


def wide(pattern, places):
    """Point 01.7: the places, and those behind the ones whose atoms repeat, ascending."""
    more = {k + 1 for k in places if k < len(pattern.atoms) and pattern.atoms[k][1]}
    return tuple(sorted(places | more))


class Places(unittest.TestCase):
    def test_before_the_first_character(self):
        self.assertEqual(start_places(pattern_of("a")), (0,))
        self.assertEqual(start_places(pattern_of("*")), (0, 1))
        self.assertEqual(start_places(pattern_of("**a")), (0, 1))
        self.assertEqual(start_places(pattern_of("a**")), (0,))

    def test_the_example_of_the_document(self):
        pattern = pattern_of("*?")
        self.assertEqual(start_places(pattern), (0, 1))
        for char in CHARACTERS:
            self.assertEqual(next_places(pattern, (0, 1), char), () if char == "/" else (0, 1, 2))

    def test_from_places_that_no_name_leads_to(self):
        pattern = pattern_of("*a**b")
        self.assertEqual(next_places(pattern, (0,), "a"), (0, 1))
        self.assertEqual(next_places(pattern, (1,), "a"), (2, 3))
        self.assertEqual(next_places(pattern, (1,), "b"), ())
        self.assertEqual(next_places(pattern, (2,), "/"), (2, 3))
        self.assertEqual(next_places(pattern, (3,), "b"), (4,))
        self.assertEqual(next_places(pattern, (4,), "b"), ())
        self.assertEqual(next_places(pattern, (), "b"), ())
        self.assertEqual(next_places(pattern, (0, 3, 4), "b"), (0, 1, 4))

    def test_like_a_plain_reading_from_any_places(self):
        rng = random.Random(3)
        for _ in range(200):
            pattern = Pattern(random_atoms(rng, 6))
            self.assertEqual(start_places(pattern), wide(pattern, {0}))
            places = tuple(k for k in range(len(pattern.atoms) + 1) if rng.random() < 0.5)
            for char in "ab/-":
                behind = set()
                for k in places:
                    if k < len(pattern.atoms) and char in pattern.atoms[k][0]:
                        behind.add(k if pattern.atoms[k][1] else k + 1)
                found = next_places(pattern, places, char)
                self.assertIs(type(found), tuple)
                self.assertEqual(found, wide(pattern, behind))

    def test_the_last_place_tells_whether_the_pattern_matches(self):
        rng = random.Random(4)
        names = list(short_names("ab/", 5))
        for _ in range(100):
            pattern = Pattern(random_atoms(rng, 6))
            for name in rng.sample(names, 40):
                places = start_places(pattern)
                for char in name:
                    places = next_places(pattern, places, char)
                self.assertIs(len(pattern.atoms) in places, plainly_matches(pattern.atoms, name))
                self.assertIs(len(pattern.atoms) in places, matches(pattern, name))
