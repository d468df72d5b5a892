"""Letters as bytes (points 08.2 and 08.3)."""

import itertools
import random
import unittest

from folderkin.coding import entry_bytes, number_bytes
from folderkin.content import split
from folderkin.errors import InvalidBytes
from folderkin.letters import decode, decode_all, encode
from tests import forms
from tests.samples import LARGEST, entry, gone, parts_of, place_of, random_entry, random_letter, random_number, shown

ONE = (entry(), 3)
TWO = (gone(name="b/c"), 256)
LETTERS = [
    (("hello", 1), [1, 1]),
    (("hello", 9), [1, 9]),
    (("ask", 0), [2, 0, 0, 0, 0]),
    (("ask", 258), [2, 0, 0, 1, 2]),
    (("ask", LARGEST), [2, 255, 255, 255, 255]),
    (("entries", 0, 0, ()), [3, 0, 0, 0, 0, 0, 0, 0, 0, 0, 0]),
    (("entries", 4, 258, ()), [3, 0, 0, 0, 4, 0, 0, 1, 2, 0, 0]),
    (("entries", 0, LARGEST, (ONE,)), [3, 0, 0, 0, 0, 255, 255, 255, 255, 0, 1] + entry_bytes(*ONE)),
    (("entries", 1, 2, (ONE, TWO, ONE)),
     [3, 0, 0, 0, 1, 0, 0, 0, 2, 0, 3] + entry_bytes(*ONE) + entry_bytes(*TWO) + entry_bytes(*ONE)),
    (("request", "a/b", 2, 263), [4, 3, 97, 47, 98, 2, 1, 7]),
    (("request", "~", 0, 65536), [4, 1, 126, 0, 2, 0, 0]),
    (("request", "q" * 40, 254, (1 << 33) - 1), [4, 40] + [113] * 40 + [254, 4, 255, 255, 255, 255]),
    (("block", 65545, (8,)), [5, 2, 0, 9, 1, 8]),
    (("block", 263, (7,)), [5, 1, 7, 1, 7]),
    (("block", 256, (0, 255, 1)), [5, 1, 0, 3, 0, 255, 1]),
    (("block", 1 << 24, (1, 2, 3, 4)), [5, 3, 0, 0, 0, 4, 1, 2, 3, 4]),
    (("block", 1 << 32, (0, 0)), [5, 4, 0, 0, 0, 0, 2, 0, 0]),
    (("refused", 256), [6, 1, 0]),
    (("refused", 0x101020304), [6, 4, 1, 2, 3, 4])]


def many_pairs(count):
    return tuple((entry(name=f"n{at}", time=at, blocks=split([at % 256] * (at % 9))), at + 1) for at in range(count))


class Writing(unittest.TestCase):
    def test_each_kind(self):
        for letter, data in LETTERS:
            found = encode(letter)
            self.assertEqual(found, data)
            self.assertIs(type(found), list)

    def test_many_pairs(self):
        for count in (255, 256, 257, 600):
            pairs = many_pairs(count)
            expected = [3, 0, 0, 0, 5, 0, 0, 2, 88, count // 256, count % 256]
            for value, number in pairs:
                expected += entry_bytes(value, number)
            self.assertEqual(encode(("entries", 5, 600, pairs)), expected)

    def test_new_lists_and_unchanged_letters(self):
        value = entry(blocks=(353, 354))
        before = parts_of(value)
        letter = ("entries", 1, 2, ((value, 3),))
        data = encode(letter)
        kept = list(data)
        data.append(1)
        self.assertEqual(encode(letter), kept)
        self.assertEqual(parts_of(value), before)


class Reading(unittest.TestCase):
    def assert_letter(self, found, letter):
        self.assertEqual(shown(found), shown(letter))
        self.assertIs(type(found), tuple)

    def test_each_kind(self):
        for letter, data in LETTERS:
            kept = list(data)
            found = decode(data)
            self.assert_letter(found, letter)
            self.assertEqual(data, kept)

    def test_the_kinds_of_the_values(self):
        found = decode(encode(("entries", 1, 2, (ONE, TWO))))
        self.assertIs(type(found[3]), tuple)
        for pair in found[3]:
            self.assertIs(type(pair), tuple)
            self.assertIs(type(pair[0].blocks), tuple)
            self.assertIs(type(pair[0].deleted), bool)
        self.assertIs(type(decode([5, 1, 7, 2, 8, 9])[2]), tuple)

    def test_many_pairs(self):
        for count in (256, 700):
            letter = ("entries", 0, LARGEST, many_pairs(count))
            data = encode(letter)
            self.assert_letter(decode(data), letter)
            self.assertEqual(place_of(decode, data[:-1]), len(data) - 1)
            self.assertEqual(place_of(decode, data + [1]), len(data))

    def test_the_most_pairs(self):
        pairs = ((gone(), 1),) * 65535
        data = encode(("entries", 0, 1, pairs))
        self.assertEqual(data[9:11], [255, 255])
        found = decode(data)[3]
        self.assertEqual(len(found), 65535)
        self.assertEqual(shown(found[65534]), shown(pairs[0]))
        self.assertEqual(place_of(decode, data[:-1]), len(data) - 1)

    def test_no_bytes(self):
        self.assertEqual(place_of(decode, []), 0)
        self.assertEqual(decode_all([]), [])

    def test_kinds_that_are_none(self):
        for kind in [0] + list(range(7, 256)):
            self.assertEqual(place_of(decode, [kind, 1]), 0)
            self.assertEqual(place_of(decode_all, [kind, 1]), 0)
            self.assertEqual(place_of(decode_all, [1, 3, kind, 1]), 2)

    def test_bytes_that_are_cut_off(self):
        for _, data in LETTERS:
            for size in range(len(data)):
                self.assertEqual(place_of(decode, data[:size]), size)
                self.assertEqual(place_of(decode_all, [1, 3] + data[:size]), None if size == 0 else 2 + size)

    def test_a_byte_more(self):
        for _, data in LETTERS:
            for byte in (0, 1, 6, 7, 255):
                self.assertEqual(place_of(decode, data + [byte]), len(data))
                self.assertEqual(place_of(decode, data + [byte, 3]), len(data))

    def test_faults(self):
        for data, place in (
            ([1, 0], 1), ([1, 10], 1), ([1, 0, 0], 1), ([4, 0], 1), ([4, 41], 1), ([4, 1, 32], 2),
            ([4, 1, 97, 255], 3), ([4, 1, 97, 255, 0], 3), ([4, 1, 97, 254, 0], 4), ([4, 1, 97, 254, 5], 4),
            ([5, 0], 1), ([5, 5], 1), ([5, 1, 7, 0], 3), ([5, 1, 7, 5], 3), ([6, 0], 1), ([6, 5], 1),
            ([6, 2, 1, 1, 0], 4), ([3] + [0] * 8 + [0, 1, 0, 0, 0, 0], 14), ([3] + [0] * 8 + [0, 1], 11),
            ([3] + [0] * 8 + [0, 0, 0], 11),
        ):
            self.assertEqual(place_of(decode, data), place, data)
            self.assertEqual(place_of(decode_all, [2, 0, 0, 0, 9] + data), 5 + place, data)

    def test_the_error(self):
        for call in (decode, decode_all):
            with self.assertRaises(InvalidBytes) as caught:
                call([1, 3, 0])
            self.assertEqual(caught.exception.place, 2)

    def test_several_letters(self):
        rng = random.Random(3)
        for _ in range(60):
            letters = [random_letter(rng) for _ in range(rng.randint(0, 6))]
            data = [byte for letter in letters for byte in encode(letter)]
            kept = list(data)
            found = decode_all(data)
            self.assertIs(type(found), list)
            self.assertEqual(shown(found), shown(letters))
            self.assertEqual(data, kept)

    def test_two_letters_are_not_one(self):
        for (_, first), (_, second) in itertools.product(LETTERS[:6], LETTERS[9:]):
            self.assertEqual(place_of(decode, first + second), len(first))
            self.assertEqual(len(decode_all(first + second)), 2)

    def test_letters_that_were_written_are_read(self):
        rng = random.Random(4)
        for _ in range(400):
            letter = random_letter(rng)
            self.assert_letter(decode(encode(letter)), letter)

    def test_every_letter_has_one_written_form(self):
        # What is read from bytes has these bytes and no others.
        rng = random.Random(5)
        for _ in range(300):
            data = encode(random_letter(rng))
            at = rng.randrange(len(data))
            data[at] = rng.randrange(256)
            if place_of(decode, data) is None:
                self.assertEqual(encode(decode(data)), data)


class AgainstPlainSearch(unittest.TestCase):
    """The places are held against a search through the written forms of tests/forms.py."""

    def assert_as_searched(self, data):
        for call, part in ((decode, forms.letter), (decode_all, forms.letters)):
            end, whole = forms.search(part, data)
            self.assertEqual(place_of(call, data), None if whole else end, data)

    def test_single_bytes_changed(self):
        for _, data in LETTERS:
            for at in range(len(data)):
                for byte in sorted({0, 1, 2, 4, 5, 9, 10, 41, 255, data[at] ^ 1, (data[at] + 1) % 256}):
                    self.assert_as_searched(data[:at] + [byte] + data[at + 1:])

    def test_all_short_rows_of_some_bytes(self):
        for size in range(6):
            for row in itertools.product((0, 1, 2, 5, 6, 97), repeat=size):
                self.assert_as_searched(list(row))

    def test_any_bytes(self):
        rng = random.Random(6)
        for _ in range(400):
            self.assert_as_searched([rng.randrange(256) for _ in range(rng.randint(0, 6))])
            self.assert_as_searched([rng.choice([0, 1, 2, 3, 4, 5, 6, 97]) for _ in range(rng.randint(0, 30))])

    def test_changed_entries(self):
        rng = random.Random(7)
        for _ in range(250):
            pairs = tuple((random_entry(rng), random_number(rng)) for _ in range(rng.randint(1, 2)))
            data = encode(("entries", 0, 1, pairs))
            for _ in range(rng.randint(1, 2)):
                at = rng.randrange(9, len(data))
                data[at] = rng.choice([0, 1, 2, 3, 4, 5, 9, 10, 255, data[at] ^ 1])
            self.assert_as_searched(data)

    def test_changed_rows_of_letters(self):
        rng = random.Random(8)
        for _ in range(250):
            data = [byte for _ in range(rng.randint(1, 4)) for byte in encode(random_letter(rng))]
            change = rng.randrange(4)
            at = rng.randrange(len(data))
            if change == 0:
                del data[at]
            elif change == 1:
                data.insert(at, rng.randrange(256))
            elif change == 2:
                data[at] = rng.randrange(256)
            else:
                data = data[:at]
            self.assert_as_searched(data)

    def test_numbers_of_zeros(self):
        head = [3] + number_bytes(0) + number_bytes(0) + [0, 1]
        for zeros in range(6):
            for last in (0, 1, 255):
                self.assert_as_searched(head + [0] * zeros + [last])
