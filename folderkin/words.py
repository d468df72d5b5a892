"""The words of the lines of scripts (chapter 17)."""

from folderkin.errors import InvalidPattern, InvalidScript
from folderkin.names import is_name, is_user_name
from folderkin.patterns import format_patterns, parse_patterns

_DIGITS = "0123456789abcdef"
_LARGEST = 4294967295
_MOST_DIGITS = 10
_MOST_BYTES = 1020
_MOST_DEVICES = 9


def format_word(kind, value):
    """Returns the word that writes a value of a kind."""
    if kind == "content":
        return "".join([f"{byte:02x}" for byte in value]) if value else "-"
    if kind == "pattern":
        return format_patterns([value])
    return "none" if value is None else str(value)


def read_word(kind, word, count, index):
    """Returns the value of a word of a kind, in a world of `count` devices. Raises InvalidScript with the index."""
    if kind == "budget" and word == "none":
        return None
    if kind == "content" and _is_content(word):
        return () if word == "-" else _bytes_of(word)
    if kind == "pattern":
        return _read_pattern(word, index)
    if (kind == "name" and is_name(word)) or (kind == "new" and is_user_name(word)):
        return word
    if kind in ("number", "budget", "count", "device", "peer") and _is_number(word):
        value = int(word)
        if kind in ("number", "budget") or 1 <= value <= (_MOST_DEVICES if kind == "count" else count):
            return value
    raise InvalidScript(index)


def _is_number(word):
    if not 1 <= len(word) <= _MOST_DIGITS or not all([char in "0123456789" for char in word]):
        return False
    return (word[0] != "0" or word == "0") and int(word) <= _LARGEST


def _is_content(word):
    if word == "-":
        return True
    if word == "" or len(word) > 2 * _MOST_BYTES or len(word) % 2 == 1:
        return False
    return all([char in _DIGITS for char in word])


def _bytes_of(word):
    digits = [_DIGITS.index(char) for char in word]
    return tuple([16 * digits[at] + digits[at + 1] for at in range(0, len(digits), 2)])


def _read_pattern(word, index):
    # As lines of patterns, these would be skipped.
    if word == "" or word.startswith("#"):
        raise InvalidScript(index)
    try:
        return parse_patterns(word)[0]
    except InvalidPattern:
        raise InvalidScript(index) from None
