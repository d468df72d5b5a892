"""Guests: devices inside of which everything is sealed (point 16.5)."""

import random
import unittest

from folderkin.attic import Rule
from folderkin.content import split
from folderkin.devices import Device
from folderkin.entries import edited
from folderkin.errors import PowerCut
from folderkin.sealing import Guest, seal_content, seal_entry, seal_letter, seal_name
from folderkin.store import Store, from_durable
from tests.drawing import CONTENTS
from tests.rigs import A, B, BA, BB, C
from tests.rigs import device_of, gives, has, own, peer, state, unchanged, wants
from tests.samples import shown
from tests.test_sealing import random_key

KEY = (5, 77, 4294967295, 8, 123456789, 0, 21, 9)


def guest_of(files=(), rows=(), number=2, key=KEY):
    """A guest whose store has these open files and rows, sealed."""
    files = {seal_name(name, key): seal_content(content, key) for name, content in dict(files).items()}
    rows = [(kind, who, value and seal_entry(value, key), at) for kind, who, value, at in rows]
    return Guest(device_of(files, rows, number=number), key)


class Talk:
    """Devices and guests that talk in rounds, as those of point 14.3, over joined lines."""

    def __init__(self, members, lines):
        self.members = members
        self.lines = lines
        self.letters = []

    def inside(self, number):
        member = self.members[number]
        return member.device if isinstance(member, Guest) else member

    def peers(self, number):
        return sorted(sum(line) - number for line in self.lines if number in line)

    def remake(self, number):
        old = self.inside(number)
        device = Device(number, from_durable(old.store.durable()), old.rule, [])
        self.members[number] = Guest(device, self.members[number].key) if old is not self.members[number] else device

    def let(self, number, call, *args):
        try:
            return getattr(self.members[number], call)(*args)
        except PowerCut:
            self.remake(number)
            return []

    def round(self, now):
        for number in sorted(self.members):
            try:
                self.inside(number).scan(now)
            except PowerCut:
                self.remake(number)
        for number in sorted(self.members):
            for other in self.peers(number):
                for answer in self.let(other, "hear", number, self.members[number].ask(other)):
                    self.letters.append(answer)
                    self.let(number, "hear", other, answer)
        for number in sorted(self.members):
            while letters := self.let(number, "work", self.peers(number), now):
                for other, letter in letters:
                    for answer in self.let(other, "hear", number, letter):
                        self.letters += [letter, answer]
                        self.let(number, "hear", other, answer)

    def own(self, number, name):
        member = self.members[number]
        return member.own(name) if isinstance(member, Guest) else member.book.own(name)[0]

    def files(self, number):
        member = self.members[number]
        store = member.store if isinstance(member, Device) else member
        return {name: store.read(name) for name in store.names()}


class Guests(unittest.TestCase):
    def test_attributes(self):
        device = device_of()
        guest = Guest(device, KEY)
        self.assertIs(guest.device, device)
        self.assertEqual(guest.key, KEY)

    def test_ask(self):
        guest = guest_of()
        guest.hear(1, ("entries", 0, 8, ()))
        self.assertEqual((guest.ask(1), guest.ask(3)), (("ask", 8), ("ask", 0)))

    def test_hear(self):
        guest = guest_of()
        self.assertEqual(unchanged(self, guest.hear, 1, ("hello", 1)), [("ask", 0)])
        letter = ("entries", 0, 8, ((wants(A + B), 7), (wants(C, name="b~3-1"), 8)))
        self.assertEqual(unchanged(self, guest.hear, 1, letter), [])
        self.assertEqual(guest.device.book.peer_names(1), sorted([seal_name("a", KEY), seal_name("b~3-1", KEY)]))
        self.assertEqual(guest.needed(), ["a", "b~3-1"])
        self.assertEqual(guest.hear(3, ("request", "a", 0, BA)), [("refused", BA)])
        # It answers what it has with open letters.
        guest = guest_of({"a": A}, [own(has(A), 4)])
        self.assertEqual(guest.hear(3, ("request", "a", 0, BA)), [gives(BA)])
        self.assertEqual(guest.device.hear(3, seal_letter(("request", "a", 0, BA), KEY)), [seal_letter(gives(BA), KEY)])
        self.assertEqual(shown(guest.hear(3, ("ask", 0))), shown([("entries", 0, 4, ((has(A), 4),))]))

    def test_work(self):
        guest = guest_of({}, [peer(1, wants(A + B))])
        for block in (BA, BB):
            index = (BA, BB).index(block)
            self.assertEqual(unchanged(self, guest.work, [1], 9), [(1, ("request", "a", index, block))])
            self.assertEqual(guest.hear(1, gives(block)), [])
        self.assertEqual(guest.work([1], 9), [])
        self.assertEqual(guest.read("a"), (A + B, 20))
        self.assertEqual(shown(guest.own("a")), shown(wants(A + B)))
        self.assertEqual(guest.device.store.read(seal_name("a", KEY)), (seal_content(A + B, KEY), 20))

    def test_the_order_is_that_of_the_device_inside(self):
        rows = [peer(1, wants([at] * 4, name=name), at + 1) for at, name in enumerate("abcdefghij")]
        guest = guest_of({}, rows)
        names = [letter[1] for _, letter in guest.work([1], 9)]
        self.assertEqual(names, sorted("abcdefghij", key=lambda name: seal_name(name, KEY)))
        self.assertNotEqual(names, list("abcdefghij"))
        # What is told of the guest itself ascends when it is opened.
        self.assertEqual(guest.needed(), list("abcdefghij"))

    def test_names(self):
        guest = guest_of({name: A for name in ("b", "a", "B", "c~1-2", "/")})
        self.assertEqual(guest.names(), ["/", "B", "a", "b", "c~1-2"])
        self.assertEqual(guest_of().names(), [])
        guest.names().clear()
        self.assertEqual(len(guest.names()), 5)

    def test_read_and_own(self):
        guest = guest_of({"a": A + [7], "b": []}, [own(has(A + [7]), 4)])
        self.assertEqual([guest.read(name) for name in ("a", "b", "c", seal_name("a", KEY))], [
            (A + [7], 1), ([], 1), None, None])
        guest.read("a")[0].clear()
        self.assertEqual(guest.read("a"), (A + [7], 1))
        self.assertEqual(shown(guest.own("a")), shown(has(A + [7])))
        self.assertEqual((guest.own("b"), guest.own("c"), guest.own(seal_name("a", KEY))), (None, None, None))

    def test_looking_changes_nothing(self):
        guest = guest_of({"a": A}, [own(has(A), 4), peer(1, wants(B))])
        before = state(guest.device)
        for call in (guest.needed, guest.names, lambda: guest.read("a"), lambda: guest.own("a"), lambda: guest.ask(1)):
            call()
        self.assertEqual((state(guest.device), guest.device.store.done()), (before, 0))

    def test_wrong_bytes_become_those_of_the_block(self):
        guest = guest_of({}, [peer(1, wants(A))])
        guest.work([1], 9)
        guest.hear(1, ("block", BA, (9,)))
        guest.work([1], 9)
        self.assertEqual(guest.read("a"), (A, 20))


class Among(unittest.TestCase):
    LINES = {
        "two": (2, [(1, 2)]), "between": (3, [(1, 2), (2, 3)]), "end": (3, [(1, 3), (2, 3), (1, 2)][:2]),
        "ring": (4, [(1, 2), (2, 3), (3, 4), (1, 4)])}

    def talk(self, count, lines, guests, rng):
        rule = Rule(rng.randint(0, 3), rng.choice([0, 10, 100]))
        key = random_key(rng)
        members = {}
        for number in range(1, count + 1):
            device = Device(number, Store({}, []), rule, [])
            members[number] = Guest(device, key) if number in guests else device
        return Talk(members, lines)

    def assert_sealed(self, guest, contents):
        """Its store has sealed names and sealed contents alone."""
        names = {seal_name(name, guest.key) for name in guest.names()}
        self.assertEqual(set(guest.device.store.names()), names)
        sealed = {tuple(seal_content(list(content), guest.key)) for content in contents}
        for name in guest.device.store.names():
            self.assertIn(tuple(guest.device.store.read(name)[0]), sealed)
        for name, _, content in guest.device.store.attic():
            self.assertIn(tuple(content), sealed)

    def run_drawn(self, count, lines, guests, seed):
        rng = random.Random(seed)
        talk = self.talk(count, lines, guests, rng)
        users = [number for number in talk.members if number not in guests]
        made, replaced = [], []
        for now in range(8):
            for _ in range(rng.randint(0, 4)):
                number, name = rng.choice(users), rng.choice("abc")
                store = talk.members[number].store
                content = rng.choice(CONTENTS)
                if store.read(name) is not None:
                    replaced.append(split(store.read(name)[0]))
                store.write(name, list(content), rng.randint(0, 9))
            if rng.random() < 0.5:
                talk.inside(rng.randint(1, count)).store.set_budget(rng.randint(0, 200))
            talk.round(now)
            for number in talk.members:
                talk.inside(number).store.set_budget(None)
                made += [pair[0] for pair in talk.inside(number).book.behind(0) if number not in guests]
        for now in range(3 * count):
            talk.round(20 + now)
        return talk, made, replaced

    def test_guests_become_alike(self):
        for word, (count, lines) in self.LINES.items():
            for guests in ([2], [count], [2, count]):
                for seed in range(6):
                    talk, made, replaced = self.run_drawn(count, lines, guests, seed)
                    first = talk.files(1)
                    contents = {name: first[name][0] for name in first}
                    for number in talk.members:
                        files = talk.files(number)
                        self.assertEqual({name: files[name][0] for name in files}, contents, (word, guests, seed))
                        for name in talk.members[1].book.names():
                            self.assertEqual(shown(talk.own(number, name)), shown(talk.own(1, name)))
                    for number in guests:
                        self.assert_sealed(talk.members[number], CONTENTS)

    def test_nothing_is_lost(self):
        for seed in range(20):
            talk, made, replaced = self.run_drawn(3, [(1, 2), (2, 3)], [2], seed)
            there = [split(file[0]) for number in talk.members for file in talk.files(number).values()]
            there += replaced
            for number in (1, 3):
                there += [split(row[2]) for row in talk.inside(number).store.attic()]
            for value in made:
                self.assertTrue(value.deleted or value.blocks in there, seed)

    def test_a_guest_hands_on(self):
        rng = random.Random(1)
        talk = self.talk(3, [(1, 2), (2, 3)], [2], rng)
        talk.members[1].store.write("a", A + B, 4)
        for now in range(3):
            talk.round(now)
        self.assertEqual(talk.members[3].store.read("a"), (A + B, 4))
        self.assertEqual(shown(talk.members[3].book.own("a")[0]), shown(edited(None, "a", 1, 1, False, 4, (BA, BB))))
        self.assertEqual(talk.members[2].names(), ["a"])

    def test_copies(self):
        rng = random.Random(2)
        talk = self.talk(3, [(1, 2), (2, 3)], [2], rng)
        talk.members[1].store.write("a", A, 4)
        talk.members[3].store.write("a", B, 5)
        for now in range(6):
            talk.round(now)
        for number in (1, 2, 3):
            self.assertEqual(talk.files(number), {"a": (B, 5), "a~1-1": (A, 4)})
