import unittest

from folderkin.errors import InvalidPattern
from folderkin.names import CHARACTERS
from folderkin.patterns import Pattern, parse_patterns
from tests.helpers import ANY_ONE, ANY_RUN, NO_SLASH, PART_RUN, one


class Reading(unittest.TestCase):
    def assert_read(self, text, *patterns):
        self.assertEqual(parse_patterns(text), list(patterns), text)

    def test_each_kind_of_atom(self):
        self.assert_read("**", Pattern([ANY_RUN]))
        self.assert_read("*", Pattern([PART_RUN]))
        self.assert_read("?", Pattern([ANY_ONE]))
        for char in CHARACTERS:
            self.assert_read(char, Pattern([(char, False)]))
        self.assert_read("**a*?-", Pattern([ANY_RUN, one("a"), PART_RUN, ANY_ONE, one("-")]))

    def test_sets(self):
        self.assert_read("[ca]", Pattern([("ac", False)]))
        self.assert_read("[-a]", Pattern([("-a", False)]))
        self.assert_read("[8-B]", Pattern([("89AB", False)]))
        self.assert_read("[.-0]", Pattern([("./0", False)]))
        self.assert_read("[!]", Pattern([ANY_ONE]))
        self.assert_read("[!-]", Pattern([(NO_SLASH[1:], False)]))
        self.assert_read("[!a-z]", Pattern([one(NO_SLASH.replace("abcdefghijklmnopqrstuvwxyz", ""))]))
        self.assert_read("[!0-~]", Pattern([("-.", False)]))
        self.assert_read("[!/0-~]", Pattern([("-.", False)]))
        self.assert_read("[a][b]", Pattern([("a", False), ("b", False)]))

    def test_negated(self):
        self.assert_read("!a", Pattern([one("a")], True))
        self.assert_read("![!a]", Pattern([one(NO_SLASH.replace("a", ""))], True))
        self.assert_read("!a\na", Pattern([one("a")], True), Pattern([one("a")]))

    def test_atoms_are_plain_values(self):
        (pattern,) = parse_patterns("[ba]*")
        self.assertEqual(pattern.atoms, (("ab", False), (NO_SLASH, True)))
        for chars, repeats in pattern.atoms:
            self.assertIs(type(chars), str)
            self.assertIs(type(repeats), bool)

    def test_lists_are_new(self):
        parse_patterns("a").append(None)
        self.assertEqual(len(parse_patterns("a")), 1)

    def test_the_longest_ones(self):
        self.assertEqual(len(parse_patterns("\n".join(["a"] * 20))), 20)
        self.assertEqual(len(parse_patterns("a" * 40)[0].atoms), 40)
        self.assertEqual(len(parse_patterns("!" + "[ab]" * 40)[0].atoms), 40)
        self.assertEqual(len(parse_patterns("#\n\n" * 30 + "a\n" * 20 + "#\n\n" * 3)), 20)


class Faults(unittest.TestCase):
    def assert_fault(self, text, place):
        for skipped in ("", "\n", "# [\n", "a\n!b*\n\n#!!\n"):
            with self.assertRaises(InvalidPattern) as caught:
                parse_patterns(skipped + text)
            self.assertEqual(caught.exception.place, len(skipped) + place, (skipped, text))

    def assert_faults(self, *rows):
        for text, place in rows:
            self.assert_fault(text, place)
            self.assert_fault(text + "\n", place)
            self.assert_fault(text + "\n!\n", place)

    def test_a_21st_pattern(self):
        for more in ("a", "!", "[", " ", "a" * 41, "!b\n**"):
            with self.assertRaises(InvalidPattern) as caught:
                parse_patterns("ab\n" * 20 + more)
            self.assertEqual(caught.exception.place, 60)
        with self.assertRaises(InvalidPattern) as caught:
            parse_patterns("a\n" * 10 + "\n#\n" + "b\n" * 10 + "\n#x\nc")
        self.assertEqual(caught.exception.place, 47)

    def test_a_fault_ahead_of_the_21st_pattern(self):
        with self.assertRaises(InvalidPattern) as caught:
            parse_patterns("ab\n" * 19 + "a]\nb")
        self.assertEqual(caught.exception.place, 58)

    def test_no_atom(self):
        self.assert_faults(("!", 1))
        self.assert_fault("!\na", 1)

    def test_a_41st_atom(self):
        self.assert_faults(
            ("a" * 41, 40), ("!" + "a" * 41, 41), ("a" * 45, 40), ("[ab]" * 41, 160),
            ("a" * 40 + "*", 40), ("a" * 40 + "**", 40), ("a" * 40 + "[ab]", 40))

    def test_atoms_that_repeat_side_by_side(self):
        self.assert_faults(
            ("***", 2), ("****", 2), ("*****", 2), ("a***", 3), ("!***", 3), ("**a****", 5), ("*a*?*b***", 8))

    def test_stars_with_something_between_are_no_fault(self):
        self.assertEqual(len(parse_patterns("*a**")[0].atoms), 3)
        self.assertEqual(len(parse_patterns("**?*")[0].atoms), 3)

    def test_the_fault_of_the_atom_itself_is_told_instead(self):
        self.assert_faults(
            ("a" * 40 + "[a%]", 42), ("a" * 40 + "[]", 40), ("a" * 40 + "[", 40), ("a" * 40 + "%", 40),
            ("a" * 40 + "[b-]", 43), ("a" * 39 + "****", 41), ("a" * 39 + "***", 41))

    def test_no_closing_bracket(self):
        self.assert_faults(("[", 0), ("a[", 1), ("[ab", 0), ("![", 1), ("[!", 0), ("[a-", 0), ("[ %", 0), ("[a]b[c", 4))
        self.assert_fault("[a\nb]", 0)
        self.assert_fault("[\n]", 0)

    def test_a_set_without_a_character(self):
        self.assert_faults(
            ("[]", 0), ("a[]", 1), ("[]a]", 0), ("[!-.-~]", 0), ("[!-.0-~]", 0), ("b[!-.0-9A-Z_a-z~]", 1))

    def test_characters_that_cannot_stand_in_a_set(self):
        for code in range(32, 127):
            char = chr(code)
            if char not in CHARACTERS and char != "]":
                self.assert_faults((f"[a{char}]", 2), (f"[a-{char}]", 3), (f"[!{char}]", 2))
                if char != "!":
                    self.assert_fault(f"[{char}a]", 1)
        self.assert_faults(
            ("[!!cab-]", 2), ("[a!]", 2), ("[a[b]", 2), ("[[]", 1), ("[a b]", 2), ("[*]", 1), ("[?]", 1), ("[#]", 1))

    def test_minus_in_a_set(self):
        self.assert_faults(
            ("[--]", 2), ("[--a]", 2), ("[a-c-]", 4), ("[a-c-e]", 4), ("[a--]", 3), ("[!--]", 3), ("[-a-]", 4),
            ("[ab--c]", 4))

    def test_the_end_of_a_set_behind_a_minus(self):
        self.assert_faults(("[a-]", 3), ("[cab-]", 5), ("[cab-]x***", 5), ("[!z-]", 4), ("[-.-]", 4))

    def test_ranges_that_do_not_ascend(self):
        self.assert_faults(("[a-a]", 3), ("[b-a]", 3), ("[a-Z]", 3), ("[a-_]", 3), ("[0-/]", 3), ("[xc-bq%]", 4))

    def test_faults_of_items_come_before_a_set_without_a_character(self):
        self.assert_faults(("[!-.-~%]", 6), ("[!-.-~a-]", 8))

    def test_other_characters(self):
        for code in range(32, 127):
            char = chr(code)
            if char not in CHARACTERS and char not in "[*?!#":
                self.assert_faults((char, 0), ("a" + char, 1), ("!" + char, 1))
        self.assert_faults(
            ("!!a", 1), ("a!", 1), ("a#", 1), ("!#", 1), (" #", 0), (" ", 0), ("a ", 1), ("]", 0), ("a]", 1), ("!]", 1))

    def test_the_first_of_two_faults(self):
        self.assert_faults(
            ("a%b%", 1), ("[b-a]%", 3), ("%[b-a]", 0), ("***%", 2), ("%***", 0), ("[a%-]", 2), ("[%", 0),
            ("a***[", 3), ("[]%", 0), ("[a[]", 2))
        self.assert_fault("!\n%", 1)
        self.assert_fault("%\n!", 0)
        self.assert_fault("[%\n]", 0)
