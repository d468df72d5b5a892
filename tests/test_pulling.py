"""Bringing a content together (chapter 11)."""

import random
import unittest

from folderkin.content import block_bytes, joined, split
from folderkin.pulling import Pull, holds_block, kept_blocks, missing, near_places
from folderkin.store import Store, from_durable
from tests.samples import all_of, entry, power_cuts

CONTENT = [1, 2, 3, 4, 5, 6, 7, 8, 9, 10]
FIRST, SECOND, LAST = split(CONTENT)


def wanting(content=CONTENT, name="new", time=6):
    return entry(name=name, time=time, blocks=split(content))


def made(files=(), temps=(), attic=()):
    """A store with these files, temporary files and contents in the attic, and no writes yet."""
    store = Store({name: (content, 1) for name, content in dict(files).items()}, [7])
    for name, content in dict(temps).items():
        store.append_temp(name, content)
    for content in attic:
        store.attic_put("x", (), content)
    return from_durable(store.durable())


def begins(content, blocks):
    """How many of the blocks stand at the front of a content, by plain words."""
    return max(many for many in range(len(blocks) + 1) if content[:len(joined(blocks[:many]))] == joined(blocks[:many]))


def plain_places(store, value):
    """Point 11.2."""
    temp = store.temp(value.name) or []
    rows = [("temp", value.name, value.blocks[:begins(temp, value.blocks)])]
    rows += [("file", name, split(store.read(name)[0])) for name in sorted(store.names())]
    rows += [("attic", at, split(row[2])) for at, row in enumerate(store.attic())]
    places = {}
    for word, where, blocks in reversed(rows):
        for index in reversed(range(len(blocks))):
            places[blocks[index]] = (word, where, index)
    return places


def random_store(rng, name):
    """A store with few different blocks, and an entry."""
    def content(most):
        data = [byte for _ in range(rng.randint(0, most)) for byte in [rng.randrange(4)] * 4]
        return data + [rng.randrange(4)] * rng.choice([0, 0, 1, 3])

    value = wanting(content(8), name)
    files = {other: content(3) for other in ("a", name, "z") if rng.random() < 0.5}
    whole = joined(value.blocks)
    front = whole[:rng.randint(0, len(whole))] + rng.choice([[], [], [1], [9, 9, 9, 9, 9]])
    temps = {other: front if other == name else content(3) for other in ("t", name) if rng.random() < 0.5}
    temps = {other: temps[other] for other in temps if temps[other]}
    return made(files, temps, [content(2) for _ in range(rng.randint(0, 2))]), value


class Kept(unittest.TestCase):
    def assert_kept(self, temp, count, content=CONTENT):
        store = made(temps={"new": temp} if temp else {})
        before = all_of(store)
        found = kept_blocks(store, wanting(content))
        self.assertEqual((found, all_of(store), store.done()), (count, before, 0))

    def test_no_temporary_file(self):
        self.assert_kept([], 0)
        self.assertEqual(kept_blocks(made({"new": CONTENT}, {"old": CONTENT}), wanting()), 0)

    def test_the_beginning_of_the_content(self):
        for size in range(1, len(CONTENT) + 1):
            self.assert_kept(CONTENT[:size], 3 if size == 10 else size // 4)

    def test_longer_ones(self):
        self.assert_kept(CONTENT + [11], 3)
        self.assert_kept(CONTENT + CONTENT, 3)
        self.assert_kept([1, 2, 3, 4, 9, 10], 1)
        self.assert_kept([1, 2, 3, 4, 5], 1, [1, 2, 3, 4])

    def test_ones_that_differ(self):
        for at in range(len(CONTENT)):
            temp = CONTENT[:at] + [77] + CONTENT[at + 1:]
            self.assert_kept(temp, at // 4)
        self.assert_kept([2, 3, 4, 5], 0)
        self.assert_kept([5, 6, 7, 8, 9, 10], 0)

    def test_an_empty_content(self):
        self.assert_kept([], 0, [])
        self.assert_kept([1, 2, 3, 4], 0, [])

    def test_a_short_block_alone(self):
        self.assert_kept([5], 1, [5])
        self.assert_kept([5, 6], 1, [5])
        self.assert_kept([5], 0, [5, 6])
        self.assert_kept([0], 1, [0])

    def test_equal_blocks(self):
        content = [7] * 16
        for size in range(1, 20):
            self.assert_kept([7] * size, min(size, 16) // 4, content)


class Near(unittest.TestCase):
    def assert_places(self, store, value, places):
        before = all_of(store)
        found = near_places(store, value)
        self.assertIs(type(found), dict)
        self.assertEqual(found, places)
        self.assertEqual((all_of(store), store.done()), (before, 0))
        found.clear()
        self.assertEqual(near_places(store, value), places)

    def test_nothing_is_near(self):
        self.assert_places(made(), wanting(), {})
        self.assert_places(made({"a": []}, {}, [[]]), wanting(), {})
        self.assert_places(made({}, {"other": CONTENT}), wanting(), {})

    def test_files(self):
        store = made({"b": [5, 6, 7, 8, 1, 2, 3, 4], "B": [1, 2, 3, 4, 9], "new": [9, 10]})
        self.assert_places(store, wanting(), {
            FIRST: ("file", "B", 0), 256 + 9: ("file", "B", 1), SECOND: ("file", "b", 0), LAST: ("file", "new", 0)})

    def test_the_attic(self):
        store = made({}, {}, [[3, 3], [5, 6, 7, 8, 3, 3], [3, 3]])
        self.assert_places(store, wanting(), {split([3, 3])[0]: ("attic", 0, 0), SECOND: ("attic", 1, 0)})

    def test_the_temporary_file(self):
        # It has what was brought together alone, whatever stands behind that.
        store = made({}, {"new": [1, 2, 3, 4, 9, 10]})
        self.assert_places(store, wanting(), {FIRST: ("temp", "new", 0)})
        store = made({}, {"new": CONTENT + [1]})
        self.assert_places(store, wanting(), {
            FIRST: ("temp", "new", 0), SECOND: ("temp", "new", 1), LAST: ("temp", "new", 2)})
        self.assert_places(made({}, {"new": [2, 2, 2, 2]}), wanting(), {})

    def test_the_first_place(self):
        content = [1, 2, 3, 4] * 3
        places = {FIRST: ("temp", "new", 0)}
        self.assert_places(made({"a": content}, {"new": content[:9]}, [content]), wanting(content), places)
        self.assert_places(made({"b": content, "a": [1]}, {}, [content]), wanting(content), {
            257: ("file", "a", 0), FIRST: ("file", "b", 0)})
        self.assert_places(made({}, {}, [[1], content, content]), wanting(content), {
            257: ("attic", 0, 0), FIRST: ("attic", 1, 0)})
        self.assert_places(made({"z": [5, 6, 7, 8] + content}, {}, [content]), wanting(content), {
            SECOND: ("file", "z", 0), FIRST: ("file", "z", 1)})

    def test_blocks_are_found_where_they_are_cut(self):
        # The bytes of a block amid others, or a longer or a shorter block, are another block.
        store = made({"a": [0, 1, 2, 3, 4], "b": [9, 10, 11], "c": [9]})
        self.assertEqual([block for block in (FIRST, SECOND, LAST) if block in near_places(store, wanting())], [])
        self.assertEqual(missing(store, wanting()), [FIRST, SECOND, LAST])

    def test_any_stores(self):
        rng = random.Random(1)
        for _ in range(200):
            store, value = random_store(rng, "m")
            self.assert_places(store, value, plain_places(store, value))


class Holding(unittest.TestCase):
    def test_files_and_the_attic(self):
        store = made({"a": [5, 6, 7, 8], "b": CONTENT[:4] + [9]}, {"new": CONTENT, "t": [3]}, [[4], [1, 1, 1, 1, 2]])
        before = all_of(store)
        for content, held in (
            ([5, 6, 7, 8], True), ([1, 2, 3, 4], True), ([9], True), ([4], True), ([1, 1, 1, 1], True), ([2], True),
            ([9, 10], False), ([3], False), ([5], False), ([5, 6, 7], False), ([6, 7, 8], False), ([0], False),
        ):
            self.assertIs(holds_block(store, split(content)[0]), held)
        self.assertEqual((all_of(store), store.done()), (before, 0))

    def test_an_empty_store(self):
        self.assertIs(holds_block(made(), 256), False)
        self.assertIs(holds_block(made({"a": []}, {}, [[]]), 256), False)


class Missing(unittest.TestCase):
    def assert_missing(self, store, content, blocks):
        before = all_of(store)
        found = missing(store, wanting(content))
        self.assertEqual(found, list(split(blocks)))
        self.assertIs(type(found), list)
        self.assertEqual((all_of(store), store.done()), (before, 0))

    def test_all(self):
        self.assert_missing(made(), CONTENT, CONTENT)
        self.assert_missing(made(), [], [])
        self.assert_missing(made({"a": [1]}, {"t": CONTENT}), [5], [5])

    def test_none(self):
        self.assert_missing(made({"a": CONTENT}), CONTENT, [])
        self.assert_missing(made({}, {"new": CONTENT}), CONTENT, [])
        self.assert_missing(made({}, {}, [CONTENT[4:], CONTENT[:4]]), CONTENT, [])

    def test_some(self):
        self.assert_missing(made({"a": [5, 6, 7, 8]}), CONTENT, CONTENT[:4] + CONTENT[8:])
        self.assert_missing(made({}, {"new": CONTENT[:6]}), CONTENT, CONTENT[4:])
        self.assert_missing(made({}, {"new": CONTENT[:4]}, [[9, 10]]), CONTENT, CONTENT[4:8])

    def test_each_once_in_the_order_of_need(self):
        content = [2] * 4 + [1] * 4 + [2] * 4 + [3] * 4 + [1] * 4 + [9]
        self.assert_missing(made(), content, [2] * 4 + [1] * 4 + [3] * 4 + [9])
        # What has been brought together is near for what is behind it.
        self.assert_missing(made({}, {"new": content[:8]}), content, [3] * 4 + [9])
        self.assert_missing(made({}, {"new": content[:7]}), content, [1] * 4 + [3] * 4 + [9])

    def test_as_told(self):
        rng = random.Random(2)
        for _ in range(300):
            store, value = random_store(rng, "m")
            places = plain_places(store, value)
            behind = value.blocks[begins(store.temp("m") or [], value.blocks):]
            expected = []
            for block in behind:
                if block not in places and block not in expected:
                    expected.append(block)
            self.assertEqual(missing(store, value), expected)


class Pulling(unittest.TestCase):
    def test_beginning(self):
        for temp, left in (
            ([], None), (CONTENT[:4], CONTENT[:4]), (CONTENT[:8], CONTENT[:8]), (CONTENT, CONTENT),
            (CONTENT[:5], CONTENT[:4]), (CONTENT[:3], None), ([9], None), (CONTENT + [1], CONTENT),
            (CONTENT[:8] + [0] * 9, CONTENT[:8]), (CONTENT[:9], CONTENT[:8]),
        ):
            store = made({"a": CONTENT}, {"new": temp, "t": [1, 2]} if temp else {"t": [1, 2]})
            before = all_of(store)
            pull = Pull(store, wanting())
            self.assertEqual(store.temp("new"), left)
            # It is cut exactly if it is longer.
            self.assertEqual(store.done(), 0 if temp == (left or []) else 1)
            self.assertEqual((store.temp("t"), all_of(store)[0]), ([1, 2], before[0]))
            self.assertEqual(pull.count(), len(split(left or [])))
            self.assertIs(pull.is_whole(), left == CONTENT)

    def test_beginning_with_an_empty_content(self):
        store = made({}, {"new": [1, 2]})
        pull = Pull(store, wanting([]))
        self.assertEqual((store.temp("new"), store.done()), (None, 1))
        self.assertEqual((pull.count(), pull.is_whole(), pull.advance()), (0, True, None))
        self.assertIs(pull.give(FIRST, block_bytes(FIRST)), False)
        self.assertIsNone(pull.place())
        self.assertEqual((store.read("new"), store.temp_names(), store.done()), (([], 6), [], 2))

    def test_advancing_to_the_first_block_that_is_not_near(self):
        store = made({"a": [1, 2, 3, 4], "b": [9, 10]})
        pull = Pull(store, wanting())
        self.assertEqual(pull.advance(), SECOND)
        self.assertEqual((store.temp("new"), pull.count(), store.done()), (CONTENT[:4], 1, 4))
        self.assertEqual(pull.advance(), SECOND)
        self.assertEqual((store.temp("new"), pull.is_whole(), store.done()), (CONTENT[:4], False, 4))

    def test_advancing_to_the_end(self):
        for store in (made({"a": CONTENT}), made({"a": CONTENT[:4]}, {}, [CONTENT[4:]]), made({"new": CONTENT})):
            pull = Pull(store, wanting())
            self.assertIsNone(pull.advance())
            self.assertEqual((store.temp("new"), pull.count(), pull.is_whole()), (CONTENT, 3, True))
            self.assertEqual(store.done(), 10)
            self.assertIsNone(pull.advance())
            self.assertEqual(store.done(), 10)

    def test_nothing_is_near(self):
        store = made()
        pull = Pull(store, wanting())
        self.assertEqual((pull.advance(), pull.count(), store.temp("new")), (FIRST, 0, None))

    def test_what_comes_near_later(self):
        store = made()
        pull = Pull(store, wanting())
        self.assertEqual(pull.advance(), FIRST)
        store.write("a", CONTENT[:8], 1)
        self.assertEqual((pull.advance(), pull.count()), (LAST, 2))
        store.attic_put("b", (), [9, 10])
        self.assertEqual((pull.advance(), pull.count()), (None, 3))

    def test_an_earlier_part_of_the_content(self):
        content = [1, 2, 3, 4, 5, 6, 7, 8, 1, 2, 3, 4, 5, 6, 7, 8, 9]
        store = made()
        pull = Pull(store, wanting(content))
        self.assertEqual(pull.advance(), FIRST)
        self.assertIs(pull.give(FIRST, [1, 2, 3, 4]), True)
        self.assertEqual(pull.advance(), SECOND)
        self.assertIs(pull.give(SECOND, (5, 6, 7, 8)), True)
        self.assertEqual(pull.count(), 2)
        self.assertEqual((pull.advance(), pull.count()), (265, 4))
        self.assertIs(pull.give(265, [9]), True)
        self.assertEqual((pull.advance(), pull.is_whole(), store.temp("new")), (None, True, content))

    def test_giving(self):
        store = made({"a": [1, 2, 3, 4]})
        pull = Pull(store, wanting())
        pull.advance()
        before = all_of(store), store.done()
        data = [5, 6, 7, 8]
        for block, other in (
            (FIRST, [1, 2, 3, 4]), (LAST, [9, 10]), (SECOND, [5, 6, 7]), (SECOND, [5, 6, 7, 9]), (SECOND, []),
            (SECOND, [5, 6, 7, 8, 9]), (LAST, data), (256, [0]), (SECOND, [1, 2, 3, 4]), (FIRST, data),
        ):
            self.assertIs(pull.give(block, other), False)
            self.assertEqual((all_of(store), store.done()), before)
        self.assertIs(pull.give(SECOND, data), True)
        self.assertEqual((store.temp("new"), store.done(), pull.count()), (CONTENT[:8], before[1] + 4, 2))
        self.assertIs(pull.give(SECOND, data), False)
        self.assertEqual((store.temp("new"), data), (CONTENT[:8], [5, 6, 7, 8]))
        self.assertIs(pull.give(LAST, (9, 10)), True)
        self.assertIs(pull.is_whole(), True)
        for block in (FIRST, SECOND, LAST):
            self.assertIs(pull.give(block, block_bytes(block)), False)
        self.assertEqual(store.temp("new"), CONTENT)

    def test_a_block_may_be_given_before_it_is_asked_for(self):
        store = made({"a": CONTENT[:4]})
        pull = Pull(store, wanting())
        self.assertIs(pull.give(SECOND, [5, 6, 7, 8]), False)
        self.assertIs(pull.give(FIRST, [1, 2, 3, 4]), True)
        self.assertIs(pull.give(SECOND, [5, 6, 7, 8]), True)
        self.assertEqual(pull.count(), 2)

    def test_equal_blocks_are_given_one_by_one(self):
        store = made()
        pull = Pull(store, wanting([7] * 12))
        block = split([7] * 4)[0]
        for count in (1, 2, 3):
            self.assertIs(pull.give(block, [7] * 4), True)
            self.assertEqual(pull.count(), count)
        self.assertIs(pull.give(block, [7] * 4), False)

    def test_putting_in_place(self):
        store = made({"new": [3], "a": CONTENT}, {"t": [1]}, [[4]])
        pull = Pull(store, wanting(time=44))
        pull.advance()
        done = store.done()
        self.assertIsNone(pull.place())
        self.assertEqual(store.done(), done + 1)
        self.assertEqual(store.read("new"), (CONTENT, 44))
        self.assertEqual((store.temp_names(), store.names(), store.read("a")), (["t"], ["a", "new"], (CONTENT, 1)))
        self.assertEqual(store.attic(), [("x", (), [4])])

    def test_two_names_at_once(self):
        store = made({"a": CONTENT[:4]})
        first, second = Pull(store, wanting()), Pull(store, wanting(CONTENT[4:], "other", 9))
        self.assertEqual((first.advance(), second.advance()), (SECOND, SECOND))
        second.give(SECOND, [5, 6, 7, 8])
        # Temporary files of other names are not near.
        self.assertEqual(first.advance(), SECOND)
        second.give(LAST, [9, 10])
        second.place()
        self.assertIsNone(first.advance())
        first.place()
        self.assertEqual((store.read("new"), store.read("other")), ((CONTENT, 6), (CONTENT[4:], 9)))

    def test_another_entry_of_the_name(self):
        # What the contents have in common stays.
        store = made()
        pull = Pull(store, wanting())
        pull.give(FIRST, [1, 2, 3, 4])
        pull.give(SECOND, [5, 6, 7, 8])
        pull = Pull(store, wanting([1, 2, 3, 4, 8, 8]))
        self.assertEqual((pull.count(), store.temp("new")), (1, CONTENT[:4]))


class Whole(unittest.TestCase):
    """Point 11.5."""

    def pull_all(self, store, value):
        """Pulls an entry; returns the list of the blocks that were asked for."""
        pull = Pull(store, value)
        asked = []
        while True:
            block = pull.advance()
            if block is None:
                pull.place()
                return asked
            asked.append(block)
            assert pull.give(block, block_bytes(block))

    def test_the_blocks_that_were_asked_for_are_those_that_were_missing(self):
        rng = random.Random(3)
        for _ in range(300):
            store, value = random_store(rng, "m")
            expected, before = missing(store, value), all_of(store)
            self.assertEqual(self.pull_all(store, value), expected)
            self.assertEqual(store.read("m"), (joined(value.blocks), 6))
            after = all_of(store)
            self.assertEqual([row for row in after[0] if row[0] != "m"], [row for row in before[0] if row[0] != "m"])
            self.assertEqual(after[1], [row for row in before[1] if row[0] != "m"])
            self.assertEqual(after[2:], before[2:])

    def test_the_longest_content(self):
        content = [at // 4 % 256 for at in range(1020)]
        store = made({"a": content[400:600]})
        value = wanting(content)
        expected = missing(store, value)
        self.assertEqual(len(expected), 205)
        self.assertEqual(self.pull_all(store, value), expected)
        self.assertEqual(store.read("new"), (content, 6))

    def test_the_power_ends_at_each_write(self):
        content = [1, 2, 3, 4, 5, 6, 7, 8, 1, 2, 3, 4, 3, 3]
        for files, temp, attic in (
            ({}, {}, []), ({"a": [5, 6, 7, 8], "new": [9]}, {"new": [1, 2, 3, 4, 7], "t": [2]}, [[3, 3], [4]]),
            ({"new": content}, {"new": [8]}, []), ({"z": content}, {"new": content[:9]}, [[5]])):
            store, value = made(files, temp, attic), wanting(content)
            whole = from_durable(store.durable())
            self.pull_all(whole, value)
            for budget, kept, returned in power_cuts(store, lambda store: self.pull_all(store, value)):
                count = kept_blocks(kept, value)
                if returned is None:
                    # What was brought together stays, with each block that was appended wholly since.
                    begun = kept_blocks(store, value)
                    size = len(joined(value.blocks[:begun]))
                    cut = 1 if (store.temp("new") or [])[size:] else 0
                    self.assertEqual(count, begins(content[:size + max(0, budget - cut)], value.blocks))
                    self.assertEqual(kept.read("new"), store.read("new"))
                    self.pull_all(kept, value)
                self.assertEqual(kept.durable(), whole.durable())
