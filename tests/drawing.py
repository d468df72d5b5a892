"""Drawn rows of commands, and what must be so behind them."""

from itertools import combinations

from folderkin.attic import Rule
from folderkin.content import split
from folderkin.entries import alike, key_of
from folderkin.scanning import agrees, own_entry
from folderkin.vectors import compare
from folderkin.worlds import World

NAMES = ("a", "b", "c")
CONTENTS = (
    (), (1,), (1, 2, 3, 4), (1, 2, 3, 4, 5), (5, 6, 7, 8, 1, 2, 3, 4), (9, 9, 9, 9, 9, 9, 9, 9, 1),
    (1, 2, 3, 4, 9, 9, 9, 9), (7,), (7, 7))
BUDGETS = (30, 300, 900)


def drawn_rule(rng):
    return Rule(rng.randint(0, 3), rng.choice([0, 10, 100]))


def drawn_world(rng, most=4):
    count = rng.randint(1, most)
    return World(count, drawn_rule(rng), [[] for _ in range(count)])


def drawn_user_command(rng, world, number):
    names = world.devices[number - 1].store.names()
    kind = rng.random()
    if kind < 0.6:
        # A name with a ~ is given only to a file that is there.
        name = rng.choice(list(NAMES) + names)
        return ("edit", number, name, rng.choice(CONTENTS), rng.randint(0, 20))
    if kind < 0.8:
        return ("remove", number, rng.choice(names + ["a"]))
    return ("move", number, rng.choice(names + ["a"]), rng.choice(NAMES))


def drawn_line_command(rng, number, peer):
    word = rng.choice(["ask"] * 3 + ["deliver"] * 10 + ["drop", "double", "swap", "cut", "join", "join"])
    if word in ("ask", "cut", "join"):
        return (word, number, peer)
    return (word, number, peer, rng.randint(0, 2))


def drawn_command(rng, world, cuts=True):
    """A command that users, lines or devices may be told, with power cuts or without them."""
    count = len(world.devices)
    number = rng.randint(1, count)
    kind = rng.random()
    if kind < 0.35:
        return drawn_user_command(rng, world, number)
    if kind < 0.43:
        return ("scan", number, rng.randint(0, 20))
    if kind < 0.48:
        return ("round", rng.randint(0, 20))
    if kind < 0.55 and cuts:
        return ("budget", number, rng.choice([None] + [rng.randint(0, most) for most in BUDGETS]))
    others = [other for other in range(1, count + 1) if other != number]
    if kind < 0.85 and others:
        return drawn_line_command(rng, number, rng.choice(others))
    return ("work", number, rng.randint(0, 20))


def pairs_of(world):
    return list(combinations(range(1, len(world.devices) + 1), 2))


def join_all(world):
    for first, second in pairs_of(world):
        world.obey(("join", first, second))


def thin_out(rng, world, hangs_together):
    """Cuts lines, as long as the world hangs together in the told sense."""
    pairs = pairs_of(world)
    rng.shuffle(pairs)
    for first, second in pairs:
        world.obey(("cut", first, second))
        if not hangs_together() or rng.random() < 0.3:
            world.obey(("join", first, second))


def set_budgets(world, count=None):
    for device in world.devices:
        world.obey(("budget", device.number, count))


def files_of(device):
    """The contents of the files of a device."""
    return {name: device.store.read(name)[0] for name in device.store.names()}


def is_kept(world, entry):
    """Point 14.5 (1), for an entry that is not deleted."""
    for device in world.devices:
        for name in device.store.names():
            if split(device.store.read(name)[0]) == entry.blocks:
                if agrees(device.store, own_entry(device.book, name), name):
                    return True
        if any(split(content) == entry.blocks for _, _, content in device.store.attic()):
            return True
    return any(blocks == entry.blocks for _, _, blocks in world.user_edits())


def assert_entries(test, world):
    """Point 04.6: entries of a history with equal vectors or makers, and those below one another."""
    entries = [row[3] for row in world.history()]
    makers, names = {}, {}
    for entry in entries:
        test.assertTrue(alike(makers.setdefault(entry.maker, entry), entry))
        others = names.setdefault(entry.name, [])
        for other in others:
            order = compare(entry.vector, other.vector)
            if order == "equal":
                test.assertTrue(alike(entry, other))
            if order in ("less", "greater"):
                test.assertEqual(key_of(entry) < key_of(other), order == "less")
                test.assertNotEqual(key_of(entry), key_of(other))
        others.append(entry)


def assert_quiet(test, world):
    """A further round brings no blocks and no new own entries."""
    rows = len(world.history())
    test.assertEqual(world.obey(("round", 99)), 0)
    test.assertEqual(len(world.history()), rows)
