"""Letters as bytes (chapter 08)."""

from folderkin.coding import Reader, entry_bytes, name_bytes, number_bytes, row_bytes
from folderkin.content import block_bytes
from folderkin.errors import InvalidBytes

_HELLO = 1
_ASK = 2
_ENTRIES = 3
_REQUEST = 4
_BLOCK = 5
_REFUSED = 6
_MOST_INDEX = 254


def encode(letter):
    """Returns the list of the bytes of a letter."""
    word = letter[0]
    if word == "hello":
        return [_HELLO, letter[1]]
    if word == "ask":
        return [_ASK] + number_bytes(letter[1])
    if word == "entries":
        return _entries_bytes(letter)
    if word == "request":
        _, name, index, block = letter
        return [_REQUEST] + name_bytes(name) + [index] + row_bytes(block_bytes(block))
    if word == "block":
        _, block, data = letter
        return [_BLOCK] + row_bytes(block_bytes(block)) + row_bytes(data)
    return [_REFUSED] + row_bytes(block_bytes(letter[1]))


def _entries_bytes(letter):
    _, behind, upto, pairs = letter
    data = [_ENTRIES] + number_bytes(behind) + number_bytes(upto)
    data.extend([len(pairs) // 256, len(pairs) % 256])
    for entry, number in pairs:
        data.extend(entry_bytes(entry, number))
    return data


def decode(data):
    """Returns the letter that the list of bytes writes. Raises InvalidBytes."""
    reader = Reader(data)
    letter = _next_letter(reader)
    if reader.at < len(data):
        raise InvalidBytes(reader.at)
    return letter


def decode_all(data):
    """Returns the list of the letters that the list of bytes writes. Raises InvalidBytes."""
    reader = Reader(data)
    letters = []
    while reader.at < len(data):
        letters.append(_next_letter(reader))
    return letters


def _next_letter(reader):
    # As each call of a Reader, this moves it behind what was read.
    kind = reader.byte(_HELLO, _REFUSED)
    if kind == _HELLO:
        return "hello", reader.device()
    if kind == _ASK:
        return "ask", reader.number()
    if kind == _ENTRIES:
        return _next_entries(reader)
    if kind == _REQUEST:
        return "request", reader.name(), reader.byte(0, _MOST_INDEX), reader.block()
    if kind == _BLOCK:
        return "block", reader.block(), tuple(reader.row())
    return "refused", reader.block()


def _next_entries(reader):
    behind = reader.number()
    upto = reader.number()
    size = reader.byte() * 256 + reader.byte()
    return "entries", behind, upto, tuple([reader.entry() for _ in range(size)])
