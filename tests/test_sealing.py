"""Sealing by a key (points 16.1 to 16.4)."""

import itertools
import random
import unittest

from folderkin.content import joined, split
from folderkin.entries import alike, copy_name, copy_of, key_of, winner
from folderkin.letters import decode, encode
from folderkin.mixing import factor
from folderkin.names import CHARACTERS
from folderkin.sealing import is_key, open_content, open_entry, open_letter, open_name
from folderkin.sealing import seal_content, seal_entry, seal_letter, seal_name
from folderkin.vectors import compare
from tests.rigs import unchanged
from tests.samples import LARGEST, entry, gone, parts_of, random_content, random_entry, random_letter, shown

ROOT = CHARACTERS.replace("~", "")
UNITS = (1, 5, 7, 13, 17, 19, 23, 25, 29, 31, 35, 37, 41, 43, 47, 49, 53, 59, 61, 65)
NONE = (0,) * 8
ONE = (0, 1, 0, 0, 0, 0, 0, 0)


def random_key(rng):
    return tuple(rng.choice([0, 1, LARGEST, rng.randrange(30), rng.randint(0, LARGEST)]) for _ in range(8))


def plain_mixed(digits, base, key):
    """Point 16.2, with additions of digits alone."""
    for turn in range(4):
        number = key[2 * turn]
        times = 2 * number + 1 if base == 256 else 66 * (number // 20) + UNITS[number % 20]
        # The least significant digit first; what is carried beyond the last digit falls away.
        turned, carry = [], key[2 * turn + 1]
        for digit in reversed(digits):
            carry += digit * times
            turned.append(carry % base)
            carry //= base
        digits = turned
    return digits


def plain_name(name, key):
    """Point 16.3."""
    root, sign, tail = name.partition("~")
    return "".join(ROOT[digit] for digit in plain_mixed([ROOT.index(char) for char in root], 66, key)) + sign + tail


def plain_content(content, key):
    data = []
    for at in range(0, len(content), 4):
        data += plain_mixed(content[at:at + 4], 256, key)
    return data


def plain_entry(value, key):
    blocks = split(plain_content(joined(value.blocks), key))
    return entry(**{**dict(zip(
        ("name", "vector", "height", "maker", "deleted", "time", "blocks"), parts_of(value))),
        "name": plain_name(value.name, key), "blocks": blocks})


def plain_block(block, key):
    return split(plain_content(joined([block]), key))[0]


def plain_letter(letter, key):
    word = letter[0]
    if word == "entries":
        return letter[:3] + (tuple((plain_entry(value, key), number) for value, number in letter[3]),)
    if word == "request":
        return (word, plain_name(letter[1], key), letter[2], plain_block(letter[3], key))
    if word == "block":
        return (word, plain_block(letter[1], key), tuple(plain_content(joined([letter[1]]), key)))
    return (word, plain_block(letter[1], key)) if word == "refused" else letter


def random_user_name(rng, size):
    name = "".join(rng.choice(ROOT) for _ in range(size))
    return name + rng.choice(["", "", "~1-2", "~9-4294967295", "~", "~~a", "~x~1-1"])


class Keys(unittest.TestCase):
    def test_keys(self):
        for key in (NONE, ONE, (LARGEST,) * 8, tuple(range(8))):
            self.assertIs(is_key(key), True, key)

    def test_other_lengths(self):
        for size in (0, 1, 7, 9, 16):
            self.assertIs(is_key((0,) * size), False, size)

    def test_bounds(self):
        for at in range(8):
            for value, told in ((0, True), (LARGEST, True), (-1, False), (LARGEST + 1, False), (1 << 40, False)):
                self.assertIs(is_key(NONE[:at] + (value,) + NONE[at + 1:]), told, (at, value))

    def test_other_items(self):
        for at in range(8):
            for value in (True, False, None, "0", 0.0, (0,), [0], (), b"0"):
                self.assertIs(is_key(NONE[:at] + (value,) + NONE[at + 1:]), False, (at, value))

    def test_other_values(self):
        for value in (
                None, 0, 8, True, "", "00000000", [], list(NONE), dict(enumerate(NONE)), set(range(8)), b"00000000"):
            self.assertIs(is_key(value), False, value)


class Factors(unittest.TestCase):
    def test_the_base_256(self):
        for number in (0, 1, 2, 127, 128, LARGEST):
            self.assertEqual(factor(number, 256), 2 * number + 1)

    def test_the_base_66(self):
        self.assertEqual([factor(number, 66) for number in range(20)], list(UNITS))
        self.assertEqual(factor(20, 66), 66 + 1)
        self.assertEqual(factor(LARGEST, 66), 66 * 214748364 + 49)

    def test_what_a_name_is_multiplied_by(self):
        # With the first factor alone: one digit is multiplied by it, modulo 66.
        factors = [(at, UNITS[at]) for at in range(20)] + [(20, 67), (21, 71), (LARGEST, 66 * 214748364 + 49)]
        for number, times in factors:
            key = (number,) + NONE[1:]
            for digit in (0, 1, 2, 33, 65):
                self.assertEqual(seal_name(ROOT[digit], key), ROOT[digit * times % 66])
            self.assertEqual(seal_name("-.", key), plain_name("-.", key))

    def test_two_digits(self):
        # 66 + 2 is multiplied by 67 and turned round once, and turned round three times more.
        key = (20, 0, 0, 0, 0, 0, 0, 0)
        number = 68 * 67 % (66 * 66)
        self.assertEqual(seal_name(ROOT[1] + ROOT[2], key), ROOT[number // 66] + ROOT[number % 66])
        # What is added in the second round is added to the number that is turned round.
        key = (0, 0, 0, 5, 0, 0, 0, 0)
        self.assertEqual(seal_name(ROOT[1] + ROOT[2], key), ROOT[6] + ROOT[2])
        self.assertEqual(seal_content([1, 2], key), [6, 2])
        self.assertEqual(seal_content([1, 2], (0, 5, 0, 0, 0, 0, 0, 0)), [1, 7])
        self.assertEqual(seal_content([255, 255], ONE), [0, 0])


class Names(unittest.TestCase):
    def test_as_told(self):
        rng = random.Random(1)
        for size in range(0, 28):
            for _ in range(25):
                name, key = random_user_name(rng, size), random_key(rng)
                if name:
                    sealed = seal_name(name, key)
                    self.assertEqual(sealed, plain_name(name, key))
                    self.assertEqual(open_name(sealed, key), name)
                    self.assertEqual(seal_name(open_name(name, key), key), name)
                    self.assertEqual(sealed.partition("~")[1:], name.partition("~")[1:])
                    self.assertEqual(len(sealed), len(name))

    def test_the_key_that_changes_nothing(self):
        for name in ("a", "ab", "a/B_9z.-", "a~1-2", "~"):
            self.assertEqual(seal_name(name, NONE), name)

    def test_an_empty_root(self):
        for name in ("~1-2", "~", "~~"):
            self.assertEqual((seal_name(name, ONE), open_name(name, ONE)), (name, name))

    def test_40_characters(self):
        rng = random.Random(2)
        for _ in range(20):
            name, key = "".join(rng.choice(ROOT) for _ in range(40)), random_key(rng)
            self.assertEqual(seal_name(name, key), plain_name(name, key))
            self.assertEqual(open_name(seal_name(name, key), key), name)

    def test_different_names_are_different(self):
        rng = random.Random(3)
        for _ in range(10):
            key = random_key(rng)
            self.assertEqual(len({seal_name(char, key) for char in ROOT}), 66)
            names = ["".join(pair) for pair in itertools.product(ROOT, repeat=2)]
            sealed = {seal_name(name, key) for name in names}
            self.assertEqual(sealed, set(names))

    def test_digits_ascend_with_the_characters(self):
        self.assertEqual([seal_name(char, ONE) for char in ROOT], list(ROOT[1:] + ROOT[0]))


class Contents(unittest.TestCase):
    def test_as_told(self):
        rng = random.Random(4)
        for size in range(0, 14):
            for _ in range(30):
                content, key = [rng.randrange(256) for _ in range(size)], random_key(rng)
                sealed = unchanged(self, seal_content, content, key)
                self.assertEqual(sealed, plain_content(content, key))
                self.assertEqual((type(sealed), len(sealed)), (list, size))
                self.assertEqual(unchanged(self, open_content, sealed, key), content)
                self.assertEqual(seal_content(open_content(content, key), key), content)

    def test_zeros_ahead(self):
        for content in ([0], [0, 0], [0, 0, 0, 0], [0, 7], [0, 0, 0, 0, 0]):
            self.assertEqual(seal_content(content, NONE), content)
            self.assertEqual(open_content(seal_content(content, ONE), ONE), content)

    def test_equal_blocks_are_equal(self):
        key = random_key(random.Random(5))
        blocks = split(seal_content([1, 2, 3, 4, 5, 6, 7, 8, 1, 2, 3, 4, 1], key))
        self.assertEqual(blocks[0], blocks[2])
        self.assertEqual(len(set(blocks)), 3)

    def test_different_blocks_are_different(self):
        rng = random.Random(6)
        for _ in range(10):
            key = random_key(rng)
            self.assertEqual(sorted(seal_content([byte], key) for byte in range(256)), [[byte] for byte in range(256)])
            pairs = {tuple(seal_content([byte, other], key)) for byte in range(256) for other in range(0, 256, 5)}
            self.assertEqual(len(pairs), 256 * 52)

    def test_1020_bytes(self):
        content, key = [at % 256 for at in range(1020)], random_key(random.Random(7))
        self.assertEqual(open_content(seal_content(content, key), key), content)


class Entries(unittest.TestCase):
    def test_as_told(self):
        rng = random.Random(8)
        for _ in range(200):
            value, key = random_entry(rng), random_key(rng)
            sealed = unchanged(self, seal_entry, value, key)
            self.assertEqual(shown(sealed), shown(plain_entry(value, key)))
            self.assertEqual(shown(unchanged(self, open_entry, sealed, key)), shown(value))
            self.assertEqual(shown(seal_entry(open_entry(value, key), key)), shown(value))

    def test_what_stays_open(self):
        value = entry(vector=((1, 4), (3, 9)), height=7, time=8, blocks=split([1, 2, 3, 4, 5]))
        sealed = seal_entry(value, random_key(random.Random(9)))
        self.assertEqual(parts_of(sealed)[1:6], parts_of(value)[1:6])
        self.assertEqual([len(joined([block])) for block in sealed.blocks], [4, 1])
        self.assertNotEqual((sealed.name, sealed.blocks), (value.name, value.blocks))
        self.assertEqual(parts_of(seal_entry(gone(name="~"), ONE)), parts_of(gone(name="~")))

    def test_copies(self):
        rng = random.Random(10)
        for _ in range(100):
            value, key = random_entry(rng, random_user_name(rng, rng.randint(1, 27))), random_key(rng)
            self.assertEqual(seal_name(copy_name(value), key), copy_name(seal_entry(value, key)))
            if not value.deleted:
                copy = seal_entry(copy_of(value, 3, 4), key)
                self.assertEqual(shown(copy), shown(copy_of(seal_entry(value, key), 3, 4)))

    def test_alike_below_and_winners(self):
        rng = random.Random(11)
        for _ in range(150):
            key = random_key(rng)
            contents = [random_content(rng, 8) for _ in range(2)]
            entries = [entry(
                vector=tuple((device, rng.randint(1, 2)) for device in range(1, 4) if rng.random() < 0.7) or ((1, 1),),
                height=rng.randint(1, 2), maker=(rng.randint(1, 2), 1), blocks=split(rng.choice(contents)))
                for _ in range(rng.randint(1, 4))] + rng.choice([[], [gone()]])
            sealed = [seal_entry(value, key) for value in entries]
            self.assertEqual(shown(winner(sealed)), shown(seal_entry(winner(entries), key)))
            for first, second in itertools.product(range(len(entries)), repeat=2):
                self.assertEqual(alike(entries[first], entries[second]), alike(sealed[first], sealed[second]))
                self.assertEqual(
                    compare(entries[first].vector, entries[second].vector),
                    compare(sealed[first].vector, sealed[second].vector))
                self.assertEqual(key_of(entries[first]), key_of(sealed[first]))


class Letters(unittest.TestCase):
    def test_as_told(self):
        rng = random.Random(12)
        words = set()
        for _ in range(300):
            letter, key = random_letter(rng), random_key(rng)
            words.add(letter[0])
            sealed = unchanged(self, seal_letter, letter, key)
            self.assertEqual(shown(sealed), shown(plain_letter(letter, key)))
            self.assertEqual(decode(encode(sealed)), sealed)
            opened = unchanged(self, open_letter, sealed, key)
            if letter[0] == "block":
                # The bytes are always those of the block.
                letter = letter[:2] + (tuple(joined([letter[1]])),)
            self.assertEqual(shown(opened), shown(letter))
            self.assertEqual(shown(seal_letter(open_letter(letter, key), key)), shown(letter))
        self.assertEqual(len(words), 6)

    def test_each_kind(self):
        self.assertEqual(seal_letter(("hello", 3), ONE), ("hello", 3))
        self.assertEqual(seal_letter(("ask", 3), ONE), ("ask", 3))
        self.assertEqual(seal_letter(("entries", 3, 4, ()), ONE), ("entries", 3, 4, ()))
        self.assertEqual(seal_letter(("request", "a~1-2", 7, 256 + 9), ONE), ("request", "b~1-2", 7, 256 + 10))
        self.assertEqual(seal_letter(("refused", 256 + 255), ONE), ("refused", 256))
        found = seal_letter(("entries", 3, 4, ((entry(blocks=(256 + 9,)), 5), (gone(name="z"), 6))), ONE)
        self.assertEqual(shown(found), shown((
            "entries", 3, 4, ((entry(name="b", blocks=(256 + 10,)), 5), (gone(name="-"), 6)))))

    def test_whatever_the_bytes_of_a_block_are(self):
        for data in ((9,), (1, 2, 3, 4), (0,)):
            self.assertEqual(seal_letter(("block", 256 + 9, data), ONE), ("block", 256 + 10, (10,)))
            self.assertEqual(open_letter(("block", 256 + 10, data), ONE), ("block", 256 + 9, (9,)))
