"""Telling what became of contents, why entries win and how devices differ, and judging it (chapter 15)."""

from folderkin.content import split
from folderkin.entries import alike, key_of, winner
from folderkin.scanning import agrees, own_entry
from folderkin.values import is_index, is_integer


def fates(world):
    """Returns the list of the fates of the new entries of all rows of the history, in order."""
    found = _first_places(world)
    return [_fate(row[3], found) for row in world.history()]


def _fate(entry, found):
    return ("removed",) if entry.deleted else found.get(entry.blocks, ("lost",))


def _first_places(world):
    """Returns a dict from the blocks of contents to the first fate that is so for them."""
    found = {}
    for device in world.devices:
        for name in device.store.names():
            entry = own_entry(device.book, name)
            # The file is there, so what agrees with it is an entry that is not deleted.
            if agrees(device.store, entry, name):
                found.setdefault(entry.blocks, ("stands", device.number, name))
    for index, row in enumerate(world.user_edits()):
        found.setdefault(row[2], ("replaced", index))
    for device in world.devices:
        for index, row in enumerate(device.store.attic()):
            found.setdefault(split(row[2]), ("attic", device.number, index))
    return found


def _stands(device, name, entry):
    """True if the file of a name has the content of an entry, and the own entry of the name agrees with it."""
    file = device.store.read(name)
    if file is None or split(file[0]) != entry.blocks:
        return False
    return agrees(device.store, own_entry(device.book, name), name)


def judge_fates(world, paper):
    """Returns True if any value is a list with a fate for each row that a judge takes, otherwise False."""
    history = world.history()
    if not isinstance(paper, list) or len(paper) != len(history):
        return False
    return all([_takes_fate(world, row[3], fate) for row, fate in zip(history, paper)])


def _takes_fate(world, entry, fate):
    if not isinstance(fate, tuple) or entry.deleted:
        return fate == ("removed",)
    if len(fate) == 2 and fate[0] == "replaced":
        edits = world.user_edits()
        return is_index(fate[1], len(edits)) and edits[fate[1]][2] == entry.blocks
    if len(fate) != 3 or not is_integer(fate[1]) or not 1 <= fate[1] <= len(world.devices):
        return False
    device = world.devices[fate[1] - 1]
    if fate[0] == "stands":
        return isinstance(fate[2], str) and _stands(device, fate[2], entry)
    attic = device.store.attic()
    return fate[0] == "attic" and is_index(fate[2], len(attic)) and split(attic[fate[2]][2]) == entry.blocks


def reasons(entries):
    """Returns the reasons for the winner of a list of at least one entry of one name."""
    made = [key_of(entry) for entry in entries]
    best = made.index(max(made))
    return best, tuple([_reason(entry, entries[best]) for entry in entries])


def _reason(entry, best):
    if alike(entry, best):
        return ("alike",)
    for part, (first, second) in enumerate(zip(key_of(entry), key_of(best))):
        if first != second:
            return "less", part, first, second
    # Entries with equal keys are alike, so they do not come here.
    return ("alike",)


def judge_winner(entries, entry, paper):
    """Returns True if a judge takes the reasons `paper`, any value, for the winner `entry`, otherwise False."""
    if not isinstance(paper, tuple) or len(paper) != 2:
        return False
    best, rows = paper
    if not is_index(best, len(entries)) or not isinstance(rows, tuple) or len(rows) != len(entries):
        return False
    if key_of(entries[best]) != max([key_of(one) for one in entries]) or entry != winner(entries):
        return False
    return all([_takes_reason(row, _reason(one, entries[best])) for one, row in zip(entries, rows)])


def _takes_reason(row, reason):
    if row != reason:
        return False
    # True is equal to 1, but it is no index of a part.
    return len(row) == 1 or is_integer(row[1])


def unlike(first, second):
    """Returns the first difference of two devices, or None."""
    for name in sorted(set(first.store.names()) | set(second.store.names())):
        if _content(first, name) != _content(second, name):
            return "file", name
    for name in sorted(set(first.book.names()) | set(second.book.names())):
        if own_entry(first.book, name) != own_entry(second.book, name):
            return "entry", name
    return None


def _content(device, name):
    file = device.store.read(name)
    return None if file is None else file[0]
