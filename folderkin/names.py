"""The characters of names, and which strings are names (chapter 01)."""

CHARACTERS = "-./0123456789ABCDEFGHIJKLMNOPQRSTUVWXYZ_abcdefghijklmnopqrstuvwxyz~"
MOST_NAME = 40
_MOST_USER_NAME = 27


def is_name(text):
    """Returns True if the string is a name, otherwise False."""
    return 1 <= len(text) <= MOST_NAME and all([char in CHARACTERS for char in text])


def is_user_name(text):
    """Returns True if the string is a name that a user gives to a new file, otherwise False."""
    # Names with a ~ are those of copies, which need room for the maker behind the root.
    return is_name(text) and len(text) <= _MOST_USER_NAME and "~" not in text


def character_of(code):
    """Returns the character of names that has this ASCII code, or None."""
    for char in CHARACTERS:
        if ord(char) == code:
            return char
    return None
