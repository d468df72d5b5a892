import random
import unittest

from folderkin.names import CHARACTERS
from folderkin.patterns import Pattern, format_patterns, parse_patterns
from tests.helpers import ANY_ONE, ANY_RUN, NO_SLASH, PART_RUN, one, random_patterns


def written(*atoms, negated=False):
    return format_patterns([Pattern(atoms, negated)])


class Writing(unittest.TestCase):
    def test_atoms_that_repeat(self):
        self.assertEqual(written(ANY_RUN), "**")
        self.assertEqual(written(PART_RUN), "*")

    def test_single_characters(self):
        for char in CHARACTERS:
            self.assertEqual(written(one(char)), char)

    def test_question_mark(self):
        self.assertEqual(written(ANY_ONE), "?")

    def test_all_characters(self):
        self.assertEqual(written((CHARACTERS, False)), "[-.-~]")

    def test_sets_with_a_slash_are_never_written_by_the_others(self):
        self.assertEqual(written(one("/a")), "[/a]")
        self.assertEqual(written(one(CHARACTERS.replace("a", ""))), "[-.-_b-~]")
        self.assertEqual(written(one(CHARACTERS.replace("-", ""))), "[.-~]")

    def test_33_and_34_characters(self):
        self.assertEqual(written(one(NO_SLASH[:33])), "[-.0-U]")
        self.assertEqual(written(one(NO_SLASH[:34])), "[!W-~]")
        self.assertEqual(written(one(NO_SLASH[-33:])), "[V-~]")
        self.assertEqual(written(one(NO_SLASH[-34:])), "[!-.0-T]")
        self.assertEqual(written(one("/" + NO_SLASH[-33:])), "[/V-~]")
        self.assertEqual(written(one("/" + NO_SLASH[-34:])), "[/U-~]")
        self.assertEqual(written(one(NO_SLASH[:33] + "/")), "[-.-U]")

    def test_all_but_one(self):
        for char in NO_SLASH:
            self.assertEqual(written(one(NO_SLASH.replace(char, ""))), f"[!{char}]")

    def test_runs_of_one_two_and_three_characters(self):
        self.assertEqual(written(one("ac")), "[ac]")
        self.assertEqual(written(one("ab")), "[ab]")
        self.assertEqual(written(one("abc")), "[a-c]")
        self.assertEqual(written(one("abdefhjk")), "[abd-fhjk]")

    def test_runs_go_on_where_the_codes_do_not(self):
        self.assertEqual(written(one("9A")), "[9A]")
        self.assertEqual(written(one("89A")), "[8-A]")
        self.assertEqual(written(one("Z_a")), "[Z-a]")
        self.assertEqual(written(one("YZ_")), "[Y-_]")
        self.assertEqual(written(one("yz~")), "[y-~]")
        self.assertEqual(written(one("./0")), "[.-0]")
        self.assertEqual(written(one(".01")), "[.01]")

    def test_minus_stands_in_front_and_begins_no_run(self):
        self.assertEqual(written(one("-.")), "[-.]")
        self.assertEqual(written(one("-a")), "[-a]")
        self.assertEqual(written(one("-./")), "[-./]")
        self.assertEqual(written(one("-./0")), "[-.-0]")
        self.assertEqual(written(one(NO_SLASH.replace("-", "").replace(".", ""))), "[!-.]")

    def test_negated_ones_and_rows_of_atoms(self):
        self.assertEqual(written(one("a"), negated=True), "!a")
        self.assertEqual(written(ANY_RUN, one("."), one("mnop"), ANY_ONE, PART_RUN, negated=True), "!**.[m-p]?*")

    def test_lists(self):
        self.assertEqual(format_patterns([]), "")
        self.assertEqual(format_patterns([Pattern([one("a")]), Pattern([PART_RUN], True)]), "a\n!*")
        self.assertEqual(format_patterns([Pattern([one("b")])] * 20), "\n".join("b" * 20))

    def test_what_is_passed_stays_as_it_was(self):
        patterns = [Pattern([one("a")]), Pattern([PART_RUN], True)]
        before = list(patterns)
        format_patterns(patterns)
        self.assertEqual(patterns, before)
        self.assertEqual(patterns[0], Pattern([one("a")]))


class ReadingAgain(unittest.TestCase):
    def assert_same_again(self, patterns):
        text = format_patterns(patterns)
        self.assertEqual(parse_patterns(text), patterns, text)
        self.assertEqual(format_patterns(parse_patterns(text)), text)

    def test_no_pattern(self):
        self.assert_same_again([])

    def test_made_up_lists(self):
        rng = random.Random(5)
        for _ in range(200):
            self.assert_same_again(random_patterns(rng, 5))

    def test_sets_of_each_size(self):
        rng = random.Random(6)
        for size in range(1, 68):
            for _ in range(20):
                self.assert_same_again([Pattern([one(rng.sample(CHARACTERS, size))])])

    def test_runs_of_each_length(self):
        for low in range(67):
            for high in range(low + 1, 68):
                self.assert_same_again([Pattern([one(CHARACTERS[low:high])])])

    def test_the_longest_lists(self):
        self.assert_same_again([Pattern([one("a"), ANY_RUN] * 20, True)] * 20)

    def test_other_texts_for_equal_patterns(self):
        for text, expected in (
            ("\n\na\n\n!b\n", "a\n!b"), ("# a comment [\na\n#\n#b\n!b", "a\n!b"), ("", ""), ("\n\n#x\n", ""),
            ("[ba]", "[ab]"), ("[aab]", "[ab]"), ("[a-cb-d]", "[a-d]"), ("[cab]", "[a-c]"),
            ("[a]", "a"), ("[-]", "-"), ("[!]", "?"), ("[!/]", "?"), ("[-.-~]", "[-.-~]"), ("[!a/]", "[!a]"),
            ("[!-.0-U]", "[V-~]"), ("[!V-~]", "[-.0-U]"), ("[-.0-V]", "[!W-~]"),
            ("[!-.0-9A-Z_b-~]", "a"), ("[a-b]", "[ab]"), ("[.-/]", "[./]"),
        ):
            self.assertEqual(format_patterns(parse_patterns(text)), expected, text)
            self.assertEqual(parse_patterns(text), parse_patterns(expected), text)
