"""Entries: versions of files, and which of them wins (chapter 04)."""

from folderkin.vectors import counts_of, join, raised


class Entry:
    """A version of a file."""

    def __init__(self, name, vector, height, maker, deleted, time, blocks):
        self.name = name
        self.vector = vector
        self.height = height
        self.maker = maker
        self.deleted = deleted
        self.time = time
        self.blocks = blocks

    def __eq__(self, other):
        return (
            isinstance(other, Entry)
            and self.name == other.name
            and self.vector == other.vector
            and self.height == other.height
            and self.maker == other.maker
            and self.deleted == other.deleted
            and self.time == other.time
            and self.blocks == other.blocks
        )


def edited(base, name, device, number, deleted, time, blocks):
    """Returns the entry of an edit; `base` is the entry that the device had for the name, or None."""
    vector = () if base is None else base.vector
    height = 1 if base is None else base.height + 1
    return Entry(name, raised(vector, device, number), height, (device, number), deleted, time, blocks)


def alike(first, second):
    """Returns True if two entries are alike, otherwise False."""
    return first.deleted == second.deleted and first.blocks == second.blocks


def key_of(entry):
    """Returns the key by which entries of a name are ordered."""
    device, number = entry.maker
    standing = 0 if entry.deleted else 1
    return entry.height, entry.time, standing, -device, -number, counts_of(entry.vector)


def winner(entries):
    """Returns the winner of a list of at least one entry."""
    best = max(entries, key=key_of)
    vector = best.vector
    for entry in entries:
        if alike(entry, best):
            vector = join(vector, entry.vector)
    return Entry(best.name, vector, best.height, best.maker, best.deleted, best.time, best.blocks)


def root_of(name):
    """Returns the part of a name before its first ~, or the whole name."""
    return name.partition("~")[0]


def copy_name(entry):
    """Returns the name for a copy of an entry."""
    device, number = entry.maker
    return f"{root_of(entry.name)}~{device}-{number}"


def copy_of(entry, device, number):
    """Returns the copy of an entry that is not deleted, made at a device with the number of a record."""
    return Entry(copy_name(entry), ((device, number),), 1, entry.maker, False, entry.time, entry.blocks)
