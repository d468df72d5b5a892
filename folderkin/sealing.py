"""Sealing names and contents by a key, for devices that are not trusted (chapter 16)."""

from folderkin.content import block_bytes, block_number, joined, split
from folderkin.entries import Entry, root_of
from folderkin.mixing import BYTE_BASE, NAME_BASE, mixed, unmixed
from folderkin.names import CHARACTERS
from folderkin.scanning import own_entry
from folderkin.values import is_integer

_KEY_SIZE = 8
_LARGEST = 4294967295


def is_key(value):
    """Returns True if the value is a key, otherwise False."""
    if not isinstance(value, tuple) or len(value) != _KEY_SIZE:
        return False
    return all([is_integer(part) and 0 <= part <= _LARGEST for part in value])


def seal_name(name, key):
    """Returns the sealed name."""
    root = root_of(name)
    return _name_of(mixed(_digits_of(root), NAME_BASE, key)) + name[len(root):]


def open_name(name, key):
    """Returns the name that was sealed."""
    root = root_of(name)
    return _name_of(unmixed(_digits_of(root), NAME_BASE, key)) + name[len(root):]


def _digits_of(root):
    # The ~ is the last one of the characters, so the others have the same indexes without it.
    return [CHARACTERS.index(char) for char in root]


def _name_of(digits):
    return "".join([CHARACTERS[digit] for digit in digits])


def _seal_blocks(blocks, key):
    return tuple([block_number(mixed(block_bytes(block), BYTE_BASE, key)) for block in blocks])


def _open_blocks(blocks, key):
    return tuple([block_number(unmixed(block_bytes(block), BYTE_BASE, key)) for block in blocks])


def seal_content(content, key):
    """Returns the bytes of the sealed content, a list."""
    return joined(_seal_blocks(split(content), key))


def open_content(content, key):
    """Returns the bytes of the content that was sealed, a list."""
    return joined(_open_blocks(split(content), key))


def seal_entry(entry, key):
    """Returns the sealed entry."""
    return _with(entry, seal_name(entry.name, key), _seal_blocks(entry.blocks, key))


def open_entry(entry, key):
    """Returns the entry that was sealed."""
    return _with(entry, open_name(entry.name, key), _open_blocks(entry.blocks, key))


def _with(entry, name, blocks):
    return Entry(name, entry.vector, entry.height, entry.maker, entry.deleted, entry.time, blocks)


def seal_letter(letter, key):
    """Returns the sealed letter."""
    return _changed(letter, key, seal_name, seal_entry, _seal_blocks)


def open_letter(letter, key):
    """Returns the letter that was sealed."""
    return _changed(letter, key, open_name, open_entry, _open_blocks)


def _changed(letter, key, change_name, change_entry, change_blocks):
    """Returns a letter with its names, entries and blocks changed by three functions."""
    word = letter[0]
    if word == "hello" or word == "ask":
        return letter
    if word == "entries":
        _, behind, upto, pairs = letter
        return word, behind, upto, tuple([(change_entry(entry, key), number) for entry, number in pairs])
    if word == "request":
        _, name, index, block = letter
        return word, change_name(name, key), index, change_blocks((block,), key)[0]
    block = change_blocks((letter[1],), key)[0]
    return (word, block, tuple(block_bytes(block))) if word == "block" else (word, block)


class Guest:
    """A device inside of which everything is sealed; it talks with others by open letters."""

    def __init__(self, device, key):
        self.device = device
        self.key = key

    def ask(self, peer):
        """Returns the letter that asks a peer for its new entries."""
        return open_letter(self.device.ask(peer), self.key)

    def hear(self, peer, letter):
        """Hears an open letter from a peer; returns the list of the open letters to the peer."""
        answers = self.device.hear(peer, seal_letter(letter, self.key))
        return [open_letter(answer, self.key) for answer in answers]

    def work(self, peers, now):
        """Works; returns the list of the pairs of peers and open letters to them."""
        return [(peer, open_letter(letter, self.key)) for peer, letter in self.device.work(peers, now)]

    def needed(self):
        """Returns the ascending list of the opened needed names."""
        return sorted([open_name(name, self.key) for name in self.device.needed()])

    def names(self):
        """Returns the ascending list of the opened names of the files."""
        return sorted([open_name(name, self.key) for name in self.device.store.names()])

    def read(self, name):
        """Returns the pair of the opened content and the time of the file with an open name, or None."""
        file = self.device.store.read(seal_name(name, self.key))
        return None if file is None else (open_content(file[0], self.key), file[1])

    def own(self, name):
        """Returns the opened own entry of an open name, or None."""
        entry = own_entry(self.device.book, seal_name(name, self.key))
        return None if entry is None else open_entry(entry, self.key)
