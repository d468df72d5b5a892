"""Values as bytes: numbers, names, vectors, blocks and entries (chapter 08)."""

from folderkin.content import BLOCK, block_bytes, block_number
from folderkin.entries import Entry
from folderkin.errors import InvalidBytes
from folderkin.names import MOST_NAME, character_of

_MOST_DEVICE = 9
_MOST_BLOCKS = 255
_NUMBER_BYTES = 4


def number_bytes(number):
    """Returns the list of the bytes of a number, the most significant one first."""
    return [(number >> (8 * behind)) & 255 for behind in reversed(range(_NUMBER_BYTES))]


def name_bytes(name):
    """Returns the list of the bytes of a name."""
    return [len(name)] + [ord(char) for char in name]


def row_bytes(row):
    """Returns the list of the bytes of a row of 1 to 4 bytes."""
    return [len(row)] + list(row)


def vector_bytes(vector):
    """Returns the list of the bytes of a vector."""
    data = [len(vector)]
    for device, count in vector:
        data.append(device)
        data.extend(number_bytes(count))
    return data


def entry_bytes(entry, number):
    """Returns the list of the bytes of an entry with its number."""
    device, made = entry.maker
    data = number_bytes(number) + name_bytes(entry.name) + vector_bytes(entry.vector)
    data.extend(number_bytes(entry.height) + [device] + number_bytes(made))
    data.extend([1 if entry.deleted else 0] + number_bytes(entry.time) + [len(entry.blocks)])
    for block in entry.blocks:
        data.extend(row_bytes(block_bytes(block)))
    return data


class Reader:
    """Reads values from a list of bytes, from an index on."""

    def __init__(self, data, at=0):
        self._data = list(data)
        self.at = at

    def byte(self, least=0, most=255):
        """Returns the next byte, which must be within these bounds."""
        if self.at >= len(self._data):
            raise InvalidBytes(len(self._data))
        value = self._data[self.at]
        if value < least or value > most:
            raise InvalidBytes(self.at)
        self.at += 1
        return value

    def number(self, least=0):
        """Returns the next number, which must not be less than 0 or 1."""
        value = 0
        for left in reversed(range(_NUMBER_BYTES)):
            # Up to the last byte, the number may still become greater than 0.
            bound = least if left == 0 and value == 0 else 0
            value = value * 256 + self.byte(bound)
        return value

    def device(self):
        """Returns the next device."""
        return self.byte(1, _MOST_DEVICE)

    def name(self):
        """Returns the next name."""
        size = self.byte(1, MOST_NAME)
        return "".join([self._character() for _ in range(size)])

    def _character(self):
        at = self.at
        char = character_of(self.byte())
        if char is None:
            raise InvalidBytes(at)
        return char

    def vector(self):
        """Returns the next vector."""
        size = self.byte(1, _MOST_DEVICE)
        pairs = []
        device = 0
        for left in reversed(range(size)):
            # As many greater devices as pairs are left must still follow.
            device = self.byte(device + 1, _MOST_DEVICE - left)
            pairs.append((device, self.number(1)))
        return tuple(pairs)

    def row(self, least=1):
        """Returns the next row of at most 4 bytes, a list."""
        size = self.byte(least, BLOCK)
        return [self.byte() for _ in range(size)]

    def block(self):
        """Returns the number of the next block."""
        return block_number(self.row())

    def entry(self):
        """Returns the pair of the next entry and its number."""
        number = self.number(1)
        name = self.name()
        vector = self.vector()
        height = self.number(1)
        device = self.device()
        made = self.number(1)
        deleted = self.byte(0, 1) == 1
        time = self.number()
        blocks = self._blocks(0 if deleted else _MOST_BLOCKS)
        return Entry(name, vector, height, (device, made), deleted, time, blocks), number

    def _blocks(self, most):
        size = self.byte(0, most)
        blocks = []
        for left in reversed(range(size)):
            # Only the last block of a content may be short.
            blocks.append(block_number(self.row(BLOCK if left > 0 else 1)))
        return tuple(blocks)
