"""Bringing a content together, block by block, from what is near and what is given (chapter 11)."""

from folderkin.content import block_bytes, joined, split


def near_places(store, entry):
    """Returns the dict of the near places of all blocks, for pulling an entry."""
    places = {}
    for word, where, blocks in _near_rows(store, entry):
        for index, block in enumerate(blocks):
            if block not in places:
                places[block] = (word, where, index)
    return places


def _near_rows(store, entry):
    """Returns the list of the near places, in order, with their blocks."""
    temp = ("temp", entry.name, entry.blocks[:kept_blocks(store, entry)])
    files = [("file", name, split(store.read(name)[0])) for name in store.names()]
    attic = [("attic", index, split(row[2])) for index, row in enumerate(store.attic())]
    return [temp] + files + attic


def holds_block(store, block):
    """Returns True if a file or a content in the attic has a block, otherwise False."""
    contents = [store.read(name)[0] for name in store.names()] + [row[2] for row in store.attic()]
    return any([block in split(content) for content in contents])


def kept_blocks(store, entry):
    """Returns how many blocks have been brought together."""
    temp = store.temp(entry.name)
    if temp is None:
        return 0
    at = 0
    for index, block in enumerate(entry.blocks):
        data = block_bytes(block)
        if temp[at:at + len(data)] != data:
            return index
        at += len(data)
    return len(entry.blocks)


def missing(store, entry):
    """Returns the list of the missing blocks."""
    places = near_places(store, entry)
    found = []
    for block in entry.blocks[kept_blocks(store, entry):]:
        if block not in places and block not in found:
            found.append(block)
    return found


class Pull:
    """A content that is being brought together in the temporary file of its name."""

    def __init__(self, store, entry):
        self._store = store
        self._entry = entry
        temp = store.temp(entry.name)
        size = len(joined(entry.blocks[:self.count()]))
        if temp is not None and len(temp) > size:
            store.cut_temp(entry.name, size)

    def count(self):
        """Returns how many blocks have been brought together."""
        return kept_blocks(self._store, self._entry)

    def is_whole(self):
        """Returns True if all blocks have been brought together, otherwise False."""
        return self.count() == len(self._entry.blocks)

    def advance(self):
        """Appends blocks that are near; returns the block that must be asked for, or None if all are there."""
        places = near_places(self._store, self._entry)
        for block in self._entry.blocks[self.count():]:
            # What is appended here was near already, so the blocks with near places stay the same.
            if block not in places:
                return block
            self._store.append_temp(self._entry.name, block_bytes(block))
        return None

    def give(self, block, data):
        """Takes a block with its bytes; returns True if it was appended, otherwise False."""
        at = self.count()
        if self._entry.blocks[at:at + 1] != (block,) or list(data) != block_bytes(block):
            return False
        self._store.append_temp(self._entry.name, data)
        return True

    def place(self):
        """Puts the content, which is whole, in place, with the time of the entry."""
        self._store.place(self._entry.name, self._entry.time)
