"""Working with peers (point 12.5)."""

import random
import unittest

from folderkin.attic import Rule
from folderkin.choosing import known
from folderkin.content import joined, split
from folderkin.entries import alike, winner
from tests.rigs import A, B, BA, BB, BC, BD, C, D
from tests.rigs import device_of, gives, has, own, peer, state, unchanged, wants
from tests.samples import gone, shown

TIME = 50


def request(number, name, index, block):
    return (number, ("request", name, index, block))


class Requests(unittest.TestCase):
    def assert_requests(self, device, peers, *letters):
        found = unchanged(self, device.work, peers, TIME)
        self.assertEqual(found, list(letters))
        self.assertIs(type(found), list)
        for pair in found:
            self.assertEqual((type(pair), type(pair[1])), (tuple, tuple))

    def test_none(self):
        self.assert_requests(device_of({"a": A}), [2, 3])
        self.assert_requests(device_of({"a": A}, [own(has(A)), peer(2, has(A))]), [2, 3])

    def test_names_ascend(self):
        names = ["b", "~", "B", "a", "-", "a~1-1"]
        contents = [[at] * 4 for at in range(6)]
        rows = [peer(2, wants(contents[at], name=name), at + 1) for at, name in enumerate(names)]
        expected = [request(2, name, 0, split(contents[names.index(name)])[0]) for name in sorted(names)]
        self.assert_requests(device_of({}, rows), [2], *expected)

    def test_the_index_in_the_winner(self):
        content = A + B + A + C + B + D
        device = device_of({"z": A + B}, [peer(2, wants(content))])
        self.assert_requests(device, [2], request(2, "a", 3, BC))
        self.assertEqual(device.store.temp("a"), A + B + A)
        device.hear(2, gives(BC))
        self.assert_requests(device, [2], request(2, "a", 5, BD))

    def test_a_block_is_asked_for_once(self):
        rows = [peer(2, wants(A + B)), peer(3, wants(A + C, name="b")), peer(2, wants(C, name="c"), 2)]
        rows += [peer(2, wants(C + A, name="d"), 3)]
        device = device_of({}, rows)
        self.assert_requests(device, [2, 3], request(2, "a", 0, BA), request(2, "c", 0, BC))
        # The next work asks again, for what did not come.
        self.assert_requests(device, [2, 3], request(2, "a", 0, BA), request(2, "c", 0, BC))
        device.hear(2, gives(BA))
        # Now the block is near for the others, which go on.
        self.assert_requests(device, [2, 3], request(2, "a", 1, BB), request(3, "b", 1, BC))

    def test_a_block_that_no_peer_has_may_be_asked_for_another_name(self):
        rows = [peer(2, wants(A)), peer(3, wants(A + B, name="b"))]
        self.assert_requests(device_of({}, rows), [3], request(3, "b", 0, BA))
        device = device_of({}, rows)
        device.hear(2, ("refused", BA))
        self.assert_requests(device, [2, 3], request(3, "b", 0, BA))

    def test_it_is_asked_for_even_if_another_name_brings_it_near_later(self):
        # The content of b is put in place behind a, so it is near for a in the next work alone.
        rows = [peer(2, wants(A + B)), peer(2, wants(A, name="b"), 2)]
        device = device_of({"z": B}, rows, temps={"b": A})
        self.assert_requests(device, [2], request(2, "a", 0, BA))
        self.assertEqual(device.store.read("b")[0], A)
        self.assert_requests(device, [2])
        self.assertEqual(device.store.read("a")[0], A + B)

    def test_it_is_not_asked_for_if_a_name_before_brought_it_near(self):
        rows = [peer(2, wants(A)), peer(2, wants(A + B, name="b"), 2)]
        device = device_of({}, rows, temps={"a": A})
        self.assert_requests(device, [2], request(2, "b", 1, BB))


class Peers(unittest.TestCase):
    ROWS = [peer(4, wants(A)), peer(3, wants(A)), peer(6, wants(A, height=2, vector=((6, 6),))), peer(5, wants(B))]

    def asked(self, peers, rows=ROWS, refused=()):
        device = device_of({}, rows)
        for number in refused:
            device.hear(number, ("refused", BA))
        return [number for number, _ in device.work(peers, TIME)]

    def test_the_first_one(self):
        for peers in ([3, 4, 5, 6], [6, 5, 4, 3], [4, 6, 3, 5]):
            before = list(peers)
            self.assertEqual(self.asked(peers), [3])
            self.assertEqual(peers, before)
        self.assertEqual(self.asked([6, 4]), [4])
        self.assertEqual(self.asked([2, 6, 5]), [6])

    def test_alike_ones_alone(self):
        # Device 5 announced another content; it may stand at the end, but this content is asked for elsewhere.
        self.assertEqual(self.asked([5, 2]), [])
        self.assertEqual(self.asked([]), [])
        self.assertEqual(self.asked([7, 8, 9]), [])

    def test_an_entry_of_another_name_does_not_count(self):
        self.assertEqual(self.asked([2, 3], [peer(3, wants(A)), peer(2, wants(A, name="b"))]), [3])

    def test_deleted_ones_do_not_count(self):
        rows = [peer(2, gone()), peer(3, wants(A)), peer(4, gone(height=2))]
        self.assertEqual(self.asked([2, 3, 4], rows), [3])
        # An empty content has no blocks to be asked for.
        device = device_of({}, [peer(2, gone()), peer(3, wants([]))])
        self.assertEqual((device.work([2, 3], TIME), device.store.read("a")), ([], ([], 20)))

    def test_those_that_refused(self):
        self.assertEqual(self.asked([3, 4, 5, 6], refused=[3]), [4])
        self.assertEqual(self.asked([3, 4, 5, 6], refused=[3, 4]), [6])
        self.assertEqual(self.asked([3, 4, 5, 6], refused=[3, 4, 5, 6]), [])
        self.assertEqual(self.asked([3, 4, 5, 6], refused=[4, 5]), [3])


class Order(unittest.TestCase):
    def test_first_those_that_place(self):
        # What is removed for a stays near for b, as b is taken first.
        rows = [own(has(A)), peer(2, gone(vector=((1, 1), (2, 5)), height=3), 1), peer(2, wants(A, name="b"), 2)]
        device = device_of({"a": A}, rows, rule=Rule(0, 0))
        self.assertEqual(device.work([2], TIME), [])
        self.assertEqual((device.store.names(), device.store.attic()), (["b"], []))
        self.assertEqual([row[3].name for row in device.changes.rows()], ["b", "a"])

    def test_ascending_among_both(self):
        rows = []
        for at, name in enumerate("abcdefgh"):
            first = has(A, name=name, vector=((1, at + 1),), maker=(1, at + 1))
            vector = ((1, at + 1), (2, at + 1))
            best = (wants(B, name=name, vector=vector), gone(name=name, vector=vector, height=3),
                    wants(A, name=name, vector=vector))[at % 3]
            rows += [own(first, at + 1), peer(2, best, at + 1)]
        files = {name: A for name in "abcdefgh"}
        device = device_of({**files, "z": B}, rows)
        device.work([2], TIME)
        self.assertEqual([row[3].name for row in device.changes.rows()], list("adgbcefh"))
        self.assertEqual([row[1] for row in device.changes.rows()], ["take"] * 4 + ["join", "take"] * 2)

    def test_a_name_that_is_not_needed_any_more(self):
        # The file of b is newer than what is told of it.
        rows = [peer(2, wants(content, name=name), at + 1) for at, (name, content) in enumerate(
            [("a", A), ("b", B), ("c", C)])]
        device = device_of({"b": (D, 99)}, rows + [own(has(A, name="b", height=5))])
        self.assertEqual(device.needed(), ["a", "b", "c"])
        self.assertEqual(device.work([2], TIME), [request(2, "a", 0, BA), request(2, "c", 0, BC)])
        self.assertEqual([row[1] for row in device.changes.rows()], ["edit"])
        self.assertEqual((device.needed(), device.store.read("b")), (["a", "c"], (D, 99)))

    def test_a_copy_ahead_of_the_turn_of_its_name(self):
        # Another device announced the copy's name, too: then no copy is made, and its turn comes behind.
        rows = [own(has(A)), peer(2, wants(B)), peer(2, has(A, name="a~1-1", vector=((2, 3),)), 2)]
        device = device_of({"a": A, "z": B}, rows)
        self.assertEqual(device.work([2], TIME), [])
        self.assertEqual([(row[1], row[3].name) for row in device.changes.rows()], [("take", "a"), ("take", "a~1-1")])
        self.assertEqual(device.store.read("a~1-1"), (A, 10))

    def test_a_name_whose_last_step_changes(self):
        # At the beginning a is to be removed; its file is newer, so it is placed again behind the others.
        rows = [own(has(A)), peer(2, gone(vector=((1, 1), (2, 5)), height=2, time=3)), peer(2, wants(B, name="b"), 2)]
        device = device_of({"a": (C, 99)}, rows)
        self.assertEqual(device.work([2], TIME), [request(2, "b", 0, BB)])
        self.assertEqual(shown([row[1] for row in device.changes.rows()]), ["edit"])


class Drawn(unittest.TestCase):
    def test_requests_as_told(self):
        """Works of drawn devices whose winners are all to be placed, held against the words of the points."""
        rng = random.Random(3)
        contents = [[byte for _ in range(rng.randint(0, 4)) for byte in [rng.randrange(5)] * 4] for _ in range(12)]
        asked = 0
        for _ in range(150):
            rows, numbers = [], {}
            for number in range(2, 6):
                for name in "abcd":
                    if rng.random() < 0.6:
                        numbers[number] = numbers.get(number, 0) + 1
                        value = wants(
                            rng.choice(contents), name=name, height=rng.randint(1, 2), maker=(number, 1),
                            vector=((number, numbers[number]),))
                        rows.append(peer(number, value, numbers[number]))
            device = device_of({"z": rng.choice(contents)}, rows)
            pairs = [(number, split([byte] * 4)[0]) for number in range(2, 6) for byte in range(5)]
            refused = [pair for pair in pairs if rng.random() < 0.2]
            for number, block in refused:
                device.hear(number, ("refused", block))
            peers = rng.sample(range(2, 6), rng.randint(0, 4))
            letters = device.work(peers, TIME)
            asked += len(letters)
            self.assertEqual(self.expected(device, peers, refused), letters)
            blocks = [letter[3] for _, letter in letters]
            self.assertEqual(len(blocks), len(set(blocks)))
        self.assertGreater(asked, 50)

    def expected(self, device, peers, refused):
        """The requests for what was brought together of each name that waits."""
        letters = []
        for name in device.needed():
            best = winner(known(device.book, name))
            kept = device.store.temp(name) or []
            index = len(split(kept))
            self.assertEqual(kept, joined(best.blocks[:index]))
            block = best.blocks[index]
            if block in [letter[3] for _, letter in letters]:
                continue
            for number in sorted(peers):
                pair = device.book.peer(number, name)
                if pair is not None and alike(pair[0], best) and (number, block) not in refused:
                    letters.append(request(number, name, index, block))
                    break
        return letters

    def test_new_lists(self):
        device = device_of({}, [peer(2, wants(A))])
        before = state(device)
        device.work([2], TIME).clear()
        self.assertEqual(device.work([2], TIME), [request(2, "a", 0, BA)])
        self.assertEqual(state(device), before)
