import string
import unittest

from folderkin.names import CHARACTERS, MOST_NAME, character_of, is_name, is_user_name

PLAIN = "-./_~" + string.digits + string.ascii_letters


class Characters(unittest.TestCase):
    def test_there_are_67_in_the_order_of_their_codes(self):
        self.assertEqual(CHARACTERS, "-./0123456789ABCDEFGHIJKLMNOPQRSTUVWXYZ_abcdefghijklmnopqrstuvwxyz~")
        self.assertEqual(CHARACTERS, "".join(sorted(PLAIN)))
        self.assertEqual(len(CHARACTERS), 67)

    def test_longest_name(self):
        self.assertEqual(MOST_NAME, 40)

    def test_character_of_each_code(self):
        for code in range(140):
            expected = chr(code) if chr(code) in PLAIN else None
            self.assertEqual(character_of(code), expected, code)

    def test_character_of_greater_codes(self):
        for code in (140, 255, 256, 301, 8211, 65535, 1 << 20, 1 << 40):
            self.assertIsNone(character_of(code))


class Names(unittest.TestCase):
    def test_lengths(self):
        for count, expected in ((0, False), (1, True), (2, True), (39, True), (40, True), (41, False), (80, False)):
            self.assertIs(is_name("a" * count), expected, count)

    def test_each_character_from_the_space_to_the_tilde(self):
        for code in range(32, 127):
            char = chr(code)
            for text in (char, "a" + char, char + "a", "a" + char + "b", "a" * 39 + char):
                self.assertIs(is_name(text), char in PLAIN, text)

    def test_all_characters_are_alike(self):
        for char in CHARACTERS:
            self.assertIs(is_name(char * 40), True)
            self.assertIs(is_name(char * 41), False)
        self.assertIs(is_name("/"), True)
        self.assertIs(is_name("//-//"), True)

    def test_lengths_of_user_names(self):
        for count, expected in ((0, False), (1, True), (26, True), (27, True), (28, False), (40, False), (41, False)):
            self.assertIs(is_user_name("a" * count), expected, count)

    def test_user_names_have_no_tilde_at_any_place(self):
        for count in (1, 2, 26, 27):
            for place in range(count):
                text = "b" * place + "~" + "b" * (count - place - 1)
                self.assertIs(is_user_name(text), False, text)
                self.assertIs(is_name(text), True, text)

    def test_user_names_have_the_other_characters_alone(self):
        for code in range(32, 127):
            char = chr(code)
            for text in (char, "x" + char, char + "x"):
                self.assertIs(is_user_name(text), char in PLAIN and char != "~", text)

    def test_names_are_ordered_as_strings(self):
        names = ["-", "-a", ".", "/", "0", "9", "A", "Z", "_", "a", "a-", "a/b", "aa", "ab", "b", "~"]
        self.assertEqual(sorted(names), names)
        by_place = sorted(names, key=lambda name: [CHARACTERS.index(char) for char in name])
        self.assertEqual(by_place, names)
