"""Values as bytes (point 08.1)."""

import random
import unittest

from folderkin.coding import Reader, entry_bytes, name_bytes, number_bytes, vector_bytes
from folderkin.content import block_bytes, split
from folderkin.entries import Entry
from folderkin.errors import InvalidBytes
from folderkin.names import CHARACTERS
from tests import forms
from tests.samples import (
    LARGEST, entry, gone, parts_of, place_of, random_block, random_entry, random_name, random_number, random_vector,
    shown)

NUMBERS = [
    (0, [0, 0, 0, 0]), (1, [0, 0, 0, 1]), (255, [0, 0, 0, 255]), (256, [0, 0, 1, 0]), (258, [0, 0, 1, 2]),
    (65536, [0, 1, 0, 0]), (16777216, [1, 0, 0, 0]), (0x01020304, [1, 2, 3, 4]), (LARGEST, [255, 255, 255, 255])]
NINE = tuple((device, device * 100) for device in range(1, 10))
PLAIN = entry(name="b", vector=((2, 3),), height=5, maker=(4, 6), time=7, blocks=())
# The bytes of this entry with the number 8: number, name, vector, height, maker, deleted, time, blocks.
PLAIN_BYTES = (
    [0, 0, 0, 8] + [1, 98] + [1, 2, 0, 0, 0, 3] + [0, 0, 0, 5] + [4, 0, 0, 0, 6] + [0] + [0, 0, 0, 7] + [0])
FLAG = 21
MOST = 26
ENTRIES = [
    PLAIN, gone(), entry(blocks=(256,)), entry(blocks=((1 << 33) - 1,)), entry(blocks=(1 << 32, 65536)),
    entry(blocks=split([7] * 1020)), entry(blocks=split([1, 2, 3] * 339)), entry(name="-"), entry(name="~" * 40),
    entry(vector=NINE), entry(vector=((9, LARGEST),)), entry(height=LARGEST, time=0, maker=(9, LARGEST)),
    entry(time=LARGEST), entry(height=256, time=255, maker=(1, 256))]


def row_of(block):
    data = block_bytes(block)
    return [len(data)] + data


class Writing(unittest.TestCase):
    def test_numbers(self):
        for value, data in NUMBERS:
            self.assertEqual(number_bytes(value), data)

    def test_names(self):
        self.assertEqual(name_bytes("a"), [1, 97])
        self.assertEqual(name_bytes("-./9Z_z~"), [8, 45, 46, 47, 57, 90, 95, 122, 126])
        self.assertEqual(name_bytes("q" * 40), [40] + [113] * 40)
        for char in CHARACTERS:
            self.assertEqual(name_bytes(char), [1, ord(char)])

    def test_vectors(self):
        self.assertEqual(vector_bytes(((2, 1), (5, 258))), [2, 2, 0, 0, 0, 1, 5, 0, 0, 1, 2])
        self.assertEqual(vector_bytes(((9, LARGEST),)), [1, 9, 255, 255, 255, 255])
        expected = [9]
        for device, count in NINE:
            expected += [device, 0, 0, count // 256, count % 256]
        self.assertEqual(vector_bytes(NINE), expected)

    def test_entries(self):
        self.assertEqual(entry_bytes(PLAIN, 8), PLAIN_BYTES)
        self.assertEqual(entry_bytes(gone(), 1), [
            0, 0, 0, 1, 1, 97, 1, 1, 0, 0, 0, 4, 0, 0, 0, 1, 1, 0, 0, 0, 4, 1, 0, 0, 0, 10, 0])
        largest = entry(
            name="b~", vector=((1, 1), (9, LARGEST)), height=LARGEST, maker=(9, 256), time=LARGEST, blocks=(263,))
        self.assertEqual(entry_bytes(largest, LARGEST), [
            255, 255, 255, 255, 2, 98, 126, 2, 1, 0, 0, 0, 1, 9, 255, 255, 255, 255, 255, 255, 255, 255, 9, 0, 0, 1, 0,
            0, 255, 255, 255, 255, 1, 1, 7])

    def test_blocks_of_entries(self):
        head = PLAIN_BYTES[:-1]
        for content, behind in (
            ([7], [1, 1, 7]), ([0, 0], [1, 2, 0, 0]), ([1, 2, 3], [1, 3, 1, 2, 3]), ([1, 2, 3, 4], [1, 4, 1, 2, 3, 4]),
            ([1, 2, 3, 4, 255], [2, 4, 1, 2, 3, 4, 1, 255]), ([9] * 1020, [255] + [4, 9, 9, 9, 9] * 255),
            ([9] * 1017, [255] + [4, 9, 9, 9, 9] * 254 + [1, 9]),
        ):
            value = entry(name="b", vector=((2, 3),), height=5, maker=(4, 6), time=7, blocks=split(content))
            self.assertEqual(entry_bytes(value, 8), head + behind)

    def test_new_lists_and_unchanged_arguments(self):
        value = entry(blocks=(353, 354))
        before = parts_of(value)
        for call, args in (
            (number_bytes, (7,)), (name_bytes, ("ab",)), (vector_bytes, (((1, 2),),)), (entry_bytes, (value, 3))):
            first = call(*args)
            kept = list(first)
            first.append(99)
            self.assertEqual(call(*args), kept)
        self.assertEqual(parts_of(value), before)

    def test_all_are_written_forms(self):
        rng = random.Random(1)
        for _ in range(150):
            value = random_entry(rng)
            for part, data in (
                (forms.number, number_bytes(random_number(rng, 0))), (forms.name, name_bytes(value.name)),
                (forms.vector, vector_bytes(value.vector)), (forms.entry, entry_bytes(value, random_number(rng))),
            ):
                self.assertEqual(forms.search(part, data), (len(data), True))


class Reading(unittest.TestCase):
    def assert_read(self, word, data, expected, *args):
        """The value is read alone, and with other bytes ahead of it and behind it."""
        for ahead, behind in (([], []), ([9, 9, 255], []), ([1], [0, 0]), ([0] * 5, [255])):
            reader = Reader(ahead + data + behind, len(ahead))
            value = getattr(reader, word)(*args)
            self.assertEqual(value, expected)
            self.assertIs(type(value), type(expected))
            self.assertEqual(reader.at, len(ahead) + len(data))

    def assert_place(self, word, data, place, *args):
        """The place is counted from the first byte of all, whatever stands ahead."""
        for ahead in ([], [9, 9, 255], [0] * 5):
            reader = Reader(ahead + data, len(ahead))
            with self.assertRaises(InvalidBytes) as caught:
                getattr(reader, word)(*args)
            self.assertEqual(caught.exception.place, len(ahead) + place, (word, data))

    def assert_cut_off(self, word, data, *args):
        """Bytes that are cut off at any place are lacking at their end."""
        for size in range(len(data)):
            self.assert_place(word, data[:size], size, *args)

    def test_at(self):
        self.assertEqual(Reader([1, 2]).at, 0)
        self.assertEqual(Reader([1, 2], 1).at, 1)
        self.assertEqual(Reader([1, 2], 2).at, 2)

    def test_bytes(self):
        for value in (0, 1, 255):
            self.assert_read("byte", [value], value)
        self.assert_read("byte", [3], 3, 3, 5)
        self.assert_read("byte", [5], 5, 3, 5)
        self.assert_read("byte", [255], 255, 3)
        self.assert_place("byte", [2], 0, 3, 5)
        self.assert_place("byte", [6], 0, 3, 5)
        self.assert_place("byte", [2], 0, 3)
        self.assert_place("byte", [], 0)
        self.assert_place("byte", [], 0, 3, 5)
        self.assertEqual(Reader([4, 6]).byte(most=4), 4)

    def test_numbers(self):
        for value, data in NUMBERS:
            self.assert_read("number", data, value)
            self.assert_read("number", data, value, 0)
            self.assert_cut_off("number", data)
            self.assert_cut_off("number", data, 1)
            if value:
                self.assert_read("number", data, value, 1)
        self.assert_place("number", [0, 0, 0, 0], 3, 1)
        self.assert_place("number", [0, 0, 0, 0, 5], 3, 1)
        self.assertEqual(Reader([0, 0, 0, 0]).number(), 0)

    def test_devices(self):
        for value in range(1, 10):
            self.assert_read("device", [value], value)
        for value in (0, 10, 255):
            self.assert_place("device", [value], 0)
            self.assert_place("device", [value, 1], 0)
        self.assert_place("device", [], 0)

    def test_names(self):
        for value in ("a", "a/b", CHARACTERS[:40], CHARACTERS[-40:], "~" * 40, "a" * 39):
            self.assert_read("name", name_bytes(value), value)
            self.assert_cut_off("name", name_bytes(value))

    def test_characters_of_names(self):
        for code in range(256):
            if chr(code) in CHARACTERS:
                self.assert_read("name", [1, code], chr(code))
            else:
                self.assert_place("name", [1, code], 1)
                self.assert_place("name", [3, 97, code, 98], 2)
                self.assert_place("name", [40] + [97] * 39 + [code], 40)
                # The first one is told, also if bytes are lacking further behind.
                self.assert_place("name", [5, 97, code], 2)
                self.assert_place("name", [5, 97, code, code], 2)

    def test_lengths_of_names(self):
        for size in (0, 41, 42, 255):
            self.assert_place("name", [size], 0)
            self.assert_place("name", [size] + [97] * size, 0)

    def test_vectors(self):
        for value in (((1, 1),), ((9, LARGEST),), ((2, 1), (5, 258)), NINE, NINE[:8], NINE[1:], ((1, 256), (9, 255))):
            self.assert_read("vector", vector_bytes(value), value)
            self.assert_cut_off("vector", vector_bytes(value))

    def test_sizes_of_vectors(self):
        for size in (0, 10, 255):
            self.assert_place("vector", [size], 0)
            self.assert_place("vector", [size] + vector_bytes(NINE)[1:], 0)

    def test_devices_of_vectors_ascend(self):
        one = [0, 0, 0, 1]
        for device in (0, 10, 255):
            self.assert_place("vector", [1, device] + one, 1)
        for device in (0, 1, 2, 3, 10, 255):
            self.assert_place("vector", [2, 3] + one + [device] + one, 6)
        self.assert_read("vector", [2, 3] + one + [4] + one, ((3, 1), (4, 1)))

    def test_devices_of_vectors_leave_room_for_greater_ones(self):
        one = [0, 0, 0, 1]
        for size in range(1, 10):
            data = [size]
            for index in range(size):
                # The greatest devices that there may be; a greater one can stand nowhere among them.
                self.assert_place("vector", data + [10 - size + index + 1], 1 + 5 * index)
                self.assert_place("vector", data + [10 - size + index + 1] + one * 9, 1 + 5 * index)
                data += [10 - size + index] + one
            self.assert_read("vector", data, tuple((device, 1) for device in range(10 - size, 10)))

    def test_counts_of_vectors(self):
        self.assert_place("vector", [1, 4, 0, 0, 0, 0], 5)
        self.assert_place("vector", [2, 4, 0, 0, 0, 1, 7, 0, 0, 0, 0], 10)

    def test_blocks(self):
        for data in ([1, 0], [1, 7], [2, 0, 0], [3, 1, 2, 3], [4, 0, 0, 0, 0], [4, 255, 255, 255, 255]):
            number = Reader(data).block()
            self.assertEqual(block_bytes(number), data[1:])
            self.assert_read("block", data, number)
            self.assert_cut_off("block", data)
        for size in (0, 5, 255):
            self.assert_place("block", [size], 0)
            self.assert_place("block", [size, 1, 2, 3, 4, 5], 0)
        self.assert_read("block", [1, 7], 263)
        self.assert_read("block", [4, 1, 2, 3, 4], 0x101020304)

    def test_entries(self):
        for value in ENTRIES:
            for number in (1, 256, LARGEST):
                data = entry_bytes(value, number)
                reader = Reader([3] + data + [1], 1)
                found = reader.entry()
                self.assertIs(type(found), tuple)
                self.assertIs(type(found[0]), Entry)
                self.assertEqual(shown(found), (parts_of(value), number))
                self.assertEqual([type(part) for part in parts_of(found[0])], [type(part) for part in parts_of(value)])
                self.assertEqual(reader.at, 1 + len(data))

    def test_entries_that_are_cut_off(self):
        for value in ENTRIES:
            data = entry_bytes(value, 8)
            for size in list(range(min(len(data), 60))) + [len(data) - 1]:
                self.assertEqual(place_of(Reader(data[:size]).entry), size)

    def test_faults_of_entries(self):
        def with_bytes(at, *data):
            return PLAIN_BYTES[:at] + list(data) + PLAIN_BYTES[at + len(data):]

        self.assertEqual(place_of(Reader(PLAIN_BYTES).entry), None)
        for data, place in (
            (with_bytes(0, 0, 0, 0, 0), 3), (with_bytes(4, 0), 4), (with_bytes(4, 41), 4), (with_bytes(5, 32), 5),
            (with_bytes(6, 0), 6), (with_bytes(6, 10), 6), (with_bytes(7, 0), 7), (with_bytes(7, 10), 7),
            (with_bytes(8, 0, 0, 0, 0), 11), (with_bytes(12, 0, 0, 0, 0), 15), (with_bytes(16, 0), 16),
            (with_bytes(16, 10), 16), (with_bytes(17, 0, 0, 0, 0), 20), (with_bytes(FLAG, 2), FLAG),
            (with_bytes(FLAG, 255), FLAG),
        ):
            self.assert_place("entry", data, place)
            self.assert_place("entry", data + [0] * 9, place)
        # The time may be 0, all numbers but these may be the greatest ones.
        self.assertEqual(Reader(with_bytes(22, 0, 0, 0, 0)).entry()[0].time, 0)
        self.assertEqual(Reader(with_bytes(22, 255, 255, 255, 255)).entry()[0].time, LARGEST)

    def test_faults_of_the_blocks_of_entries(self):
        head = PLAIN_BYTES[:-1]
        self.assert_place("entry", head + [1, 0], MOST + 1)
        self.assert_place("entry", head + [1, 5], MOST + 1)
        for size in (0, 1, 2, 3, 5, 255):
            self.assert_place("entry", head + [2, size], MOST + 1)
            self.assert_place("entry", head + [2, size, 1, 1, 1, 1, 1, 1], MOST + 1)
            self.assert_place("entry", head + [3, 4, 1, 1, 1, 1, size, 1, 1, 1], MOST + 6)
        self.assert_place("entry", head + [2, 4, 1, 1, 1, 1, 0], MOST + 6)
        self.assert_place("entry", head + [2, 4, 1, 1, 1, 1, 5], MOST + 6)
        self.assert_place("entry", head + [2, 4, 1, 1, 1, 1], MOST + 6)
        full = head + [255] + [4, 9, 9, 9, 9] * 254
        for size in range(1, 5):
            self.assertEqual(place_of(Reader(full + [size] + [9] * size).entry), None)
        self.assert_place("entry", full, len(full))

    def test_a_deleted_entry_has_no_blocks(self):
        data = PLAIN_BYTES[:FLAG] + [1] + PLAIN_BYTES[FLAG + 1:]
        self.assertEqual(parts_of(Reader(data).entry()[0])[4:], (True, 7, ()))
        for count in (1, 2, 255):
            self.assert_place("entry", data[:-1] + [count, 1, 7], MOST)
            self.assert_place("entry", data[:-1] + [count], MOST)

    def test_several_values_in_turn(self):
        values = [
            ("number", 7, number_bytes(7)), ("name", "a/b", name_bytes("a/b")), ("device", 9, [9]),
            ("entry", (entry(), 3), entry_bytes(entry(), 3)), ("byte", 200, [200]), ("block", 263, [1, 7]),
            ("vector", NINE, vector_bytes(NINE)), ("number", 0, number_bytes(0)),
            ("entry", (gone(), 1), entry_bytes(gone(), 1)), ("name", "~", [1, 126])]
        data = [1, 2, 3]
        for _, _, part in values:
            data += part
        reader = Reader(data, 3)
        at = 3
        for word, value, part in values:
            self.assertEqual(getattr(reader, word)(), value)
            at += len(part)
            self.assertEqual(reader.at, at)
        self.assertEqual(place_of(reader.byte), len(data))
        self.assertEqual(place_of(reader.number), len(data))

    def test_the_place_behind_other_values(self):
        reader = Reader([0, 0, 0, 1, 2, 97, 98, 12, 5, 5])
        reader.number()
        reader.name()
        self.assertEqual(place_of(reader.device), 7)
        reader = Reader([0, 0, 0, 1, 2, 97])
        reader.number()
        self.assertEqual(place_of(reader.name), 6)

    def test_the_bytes_are_copied(self):
        data = [0, 0, 0, 1, 7]
        reader = Reader(data)
        data[3] = 9
        data.append(8)
        self.assertEqual(reader.number(), 1)
        self.assertEqual(reader.byte(), 7)
        self.assertEqual(place_of(reader.byte), 5)
        self.assertEqual(data, [0, 0, 0, 9, 7, 8])


class AgainstPlainSearch(unittest.TestCase):
    """The readings are held against a search through the written forms of tests/forms.py."""

    def assert_as_searched(self, word, part, data, at, *args):
        end, whole = forms.search(part, data, at, to_end=False)
        reader = Reader(data, at)
        place = place_of(getattr(reader, word), *args)
        self.assertEqual(place, None if whole else end, (word, data, at))
        if whole:
            self.assertEqual(reader.at, end)

    def test_written_values_with_changes(self):
        rng = random.Random(2)
        kinds = [
            ("number", forms.number, lambda: number_bytes(random_number(rng, 0)), ()),
            ("number", forms.positive, lambda: number_bytes(random_number(rng, 0)), (1,)),
            ("device", forms.device, lambda: [rng.randint(0, 11)], ()),
            ("name", forms.name, lambda: name_bytes(random_name(rng)), ()),
            ("vector", forms.vector, lambda: vector_bytes(random_vector(rng)), ()),
            ("block", forms.row, lambda: row_of(random_block(rng)), ()),
            ("entry", forms.entry, lambda: entry_bytes(random_entry(rng), random_number(rng)), ())]
        for word, part, written, args in kinds:
            for _ in range(150):
                data = written()
                ahead = [rng.randrange(256) for _ in range(rng.randint(0, 3))]
                for _ in range(rng.randint(0, 2)):
                    at = rng.randrange(len(data))
                    data[at] = rng.choice([0, 1, 4, 5, 9, 10, data[at] ^ 1, rng.randrange(256)])
                data = ahead + data + [rng.randrange(256) for _ in range(rng.randint(0, 2))]
                if rng.random() < 0.3:
                    data = data[:rng.randint(len(ahead), len(data))]
                self.assert_as_searched(word, part, data, len(ahead), *args)

    def test_each_device_in_short_vectors(self):
        one = [0, 0, 0, 1]
        for size in range(1, 4):
            for first in range(11):
                for second in range(11):
                    data = [size, first] + one + [second] + one + [9] + one
                    self.assert_as_searched("vector", forms.vector, data, 0)
