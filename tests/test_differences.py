import itertools
import random
import unittest

from folderkin.comparing import first_difference, relation, without_idle
from folderkin.names import CHARACTERS
from folderkin.patterns import Pattern, format_patterns, leaves_out, parse_patterns
from tests.helpers import (
    ALIKE, BOUND, PARTED_AT_40, PARTED_AT_41, TELLING, both, changed, plain_difference, plainly_leaves_out,
    random_patterns)


class Differences(unittest.TestCase):
    def assert_first(self, first, second, name):
        first, second = both(first, second)
        self.assertEqual(first_difference(first, second), name)
        self.assertEqual(first_difference(second, first), name)
        if name is not None:
            self.assertNotEqual(plainly_leaves_out(first, name), plainly_leaves_out(second, name))

    def test_short_ones(self):
        for first, second, name in (
            ("*.o", "**.o", "/.o"), ("", "**", "-"), ("", "*", "-"), ("", "?", "-"), ("", "/", "/"), ("", "~", "~"),
            ("", "a\n[b-z]", "a"), ("a", "b", "a"), ("b", "a", "a"), ("ab", "ba", "ab"), ("zz\nb", "zz", "b"),
            ("*", "**", "/"), ("?", "*", "--"), ("!a\n*", "*", "a"), ("a\n!ab\na*", "!ab\na*", None), ("*a", "*b", "a"),
            ("a*b*", "a*b", "ab-"), ("[ab]", "[ac]", "b"), ("!**\na", "a", "a"), ("**/", "*/", "//"),
            ("!ab\na*", "a*", "ab"),
        ):
            self.assert_first(first, second, name)

    def test_lists_that_leave_out_the_same_names(self):
        for first, second in ALIKE:
            self.assert_first(first, second, None)

    def test_shorter_names_come_before_lesser_ones(self):
        self.assert_first("", "~\n--", "~")
        self.assert_first("", "a~\n---", "a~")
        self.assert_first("", "zz\nzy", "zy")

    def test_against_all_short_names(self):
        rng = random.Random(7)
        names = list(CHARACTERS) + ["".join(row) for row in itertools.product(CHARACTERS, repeat=2)]
        for _ in range(20):
            first, second = random_patterns(rng, 3, 3), random_patterns(rng, 3, 3)
            parting = [name for name in names if leaves_out(first, name) != leaves_out(second, name)]
            found = first_difference(first, second)
            if parting:
                self.assertEqual(found, min(parting, key=lambda name: (len(name), name)))
            elif found is not None:
                self.assertGreater(len(found), 2)

    def test_against_a_search_layer_by_layer(self):
        rng = random.Random(8)
        for turn in range(50):
            first = random_patterns(rng, 3, 4)
            second = random_patterns(rng, 3, 4) if turn % 4 == 0 else changed(rng, first)
            expected = plain_difference(first, second)
            self.assertEqual(first_difference(first, second), expected)
            self.assertEqual(first_difference(second, first), expected)

    def test_many_lists_against_a_search_with_fewer_characters(self):
        rng = random.Random(13)
        lengths = set()
        for turn in range(600):
            first = random_patterns(rng, 4, 6, rng.choice(["ab/", "a/", "abc"]))
            second = changed(rng, changed(rng, first))
            expected = plain_difference(first, second, TELLING)
            self.assertEqual(first_difference(first, second), expected)
            lengths.add(len(expected or ""))
        self.assertTrue(lengths >= {0, 1, 2, 3, 4, 5, 6})

    def test_slashes_end_what_a_star_matches(self):
        for first, second, name in (
            ("**/*b", "*/*b", "//b"), ("**/*b", "**/b\n**/?*b", None), ("**a/*b", "*a/*b\n/a/*b", "-/a/b"),
            ("**a/*b", "*a/*b\n*/*a/*b", "//a/b"), ("*/*b*/*", "**b*/*", "b/"), ("**[a/]*b", "*[a/]*b", "//b"),
        ):
            self.assert_first(first, second, name)

    def test_names_of_40_characters(self):
        self.assert_first(*PARTED_AT_40, "a" * 38 + "bb")
        self.assert_first("a" * 40, "", "a" * 40)
        self.assert_first("a" * 39 + "?", "a" * 40, "a" * 39 + "-")
        self.assert_first("", "*a" * 20, "a" * 20)

    def test_longer_names_do_not_count(self):
        self.assert_first(*PARTED_AT_41, None)
        first, second = both(*PARTED_AT_41)
        self.assertNotEqual(leaves_out(first, "a" * 38 + "bbb"), leaves_out(second, "a" * 38 + "bbb"))

    def test_patterns_that_have_no_effect_any_more(self):
        for first, second, name in (
            ("!**b**\n**b*\n**a????????????", "!**b**\n**a????????????", None),
            ("**a????????????\n**", "**", None),
            ("!**a????????????\n!**b**c**d", "", None),
            ("**a**\n!**a????????????\n**b", "**a**\n**b", None),
            ("**a**\n!**b????????????\n**c**\n!**c**d", "**a**\n!**b????????????\n**c**", None),
            ("!**b*c\n**b**", "**b**", "bc"),
            ("!**b*c\n*b**\n**b**", "**b**", "bc"),
            ("**a**\n**b**", "**a**\n!**b**a**\n**b**", None),
            ("!**a**b**\n**a**", "!**a**b**c**\n**a**", "ab"),
        ):
            self.assert_first(first, second, name)

    def test_lists_at_the_bounds(self):
        text, count = BOUND, sum(len(pattern.atoms) for pattern in parse_patterns(BOUND))
        self.assertEqual((count, len(parse_patterns(text)), text.count("?")), (24, 4, 6))
        self.assert_first(text, text, None)
        self.assert_first(text, text.replace("f**i", "f**j"), "efi")
        self.assert_first(text, text.replace("?\n", "*\n"), "a-----")
        self.assert_first(
            "**a??????\n!**b**c**d\n**e**f**g\n**", "!**b**c**d\n**a??????\n**e**f**g\n**", "a---bcd")
        self.assert_first("**a????????????\n**b**c**d\n**e**f**g\n**a**", "**e**f**g\n**b**c**d\n**a**", None)

    def test_what_is_passed_stays_as_it_was(self):
        first, second = both("a*\n!b", "a*\n!b\nc")
        first_difference(first, second)
        relation(first, first)
        without_idle(second)
        self.assertEqual((first, second), both("a*\n!b", "a*\n!b\nc"))


def plainly_without_idle(patterns):
    """What the interface says, with the search layer by layer."""
    index = len(patterns) - 1
    while index >= 0:
        shorter = patterns[:index] + patterns[index + 1:]
        if plain_difference(patterns, shorter) is None:
            patterns = shorter
        index -= 1
    return patterns


class WithoutIdle(unittest.TestCase):
    def assert_kept(self, text, expected):
        patterns = parse_patterns(text)
        found = without_idle(patterns)
        self.assertEqual(format_patterns(found), expected, text)
        self.assertIsNot(found, patterns)
        self.assertEqual(patterns, parse_patterns(text))

    def test_some_lists(self):
        for text, expected in (
            ("", ""), ("a", "a"), ("!a", ""), ("!a\n!b", ""), ("a\na", "a"), ("ab\n!ab\na*", "a*"), ("a*\n!ab", "a*"),
            ("!ab\na*", "!ab\na*"), ("!a\nb", "b"), ("a\nb\n[ab]", "a\nb"), ("[ab]\na\nb", "[ab]"),
            ("*a\n**\n!*", "**"),
            ("a\n!**\nb", "a"), ("!a\n**\n!b", "!a\n**"), ("!/**\n*", "*"), ("!*/*\n**/**", "!*/*\n**/**"),
        ):
            self.assert_kept(text, expected)

    def test_the_last_one_of_equal_ones_is_taken_away(self):
        patterns = [Pattern([("a", False)]), Pattern([("b", False)]), Pattern([("a", False)])]
        found = without_idle(patterns)
        self.assertEqual(len(found), 2)
        self.assertIs(found[0], patterns[0])
        self.assertIs(found[1], patterns[1])

    def test_only_longer_names_part_them(self):
        self.assert_kept("!" + "a" * 20 + "**\n**bbb", "!" + "a" * 20 + "**\n**bbb")
        self.assertEqual(without_idle(parse_patterns(PARTED_AT_41[0])), parse_patterns("**bbb"))
        self.assertEqual(without_idle(parse_patterns(PARTED_AT_40[0])), parse_patterns(PARTED_AT_40[0]))

    def test_against_taking_away_one_by_one(self):
        rng = random.Random(9)
        for _ in range(30):
            patterns = random_patterns(rng, 4, 3)
            self.assertEqual(without_idle(patterns), plainly_without_idle(patterns))

    def test_lists_at_the_bounds(self):
        # 8 patterns, 24 atoms, 8 of which have several characters and do not repeat.
        text = "**a????????\n!**b\n**c\n!**d\n**e\n!**f\n**g\n!**h"
        self.assertEqual(sum(len(pattern.atoms) for pattern in parse_patterns(text)), 24)
        self.assert_kept(text, "**a????????\n**c\n**e\n**g")
        self.assert_kept("!**b**\n**c**\n!**d**\n**e**\n**a????????\n**", "!**b**\n**c**\n!**d**\n**")
