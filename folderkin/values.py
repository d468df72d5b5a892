"""What may be told by papers, which may be any values."""


def is_integer(value):
    """Returns True if any value is an integer other than True and False, otherwise False."""
    return isinstance(value, int) and not isinstance(value, bool)


def is_index(value, count):
    """Returns True if any value is an index of something with `count` items, otherwise False."""
    return is_integer(value) and 0 <= value < count
