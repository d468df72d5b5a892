"""Vectors: for each device the number of its last record that a version knows (chapter 03)."""


def count_of(vector, device):
    """Returns the count of a device."""
    for known, count in vector:
        if known == device:
            return count
    return 0


def compare(first, second):
    """Returns "equal", "less" if the first is below the second, "greater" if the second is below, or "apart"."""
    less = _is_less_somewhere(first, second)
    greater = _is_less_somewhere(second, first)
    if less and greater:
        return "apart"
    if less:
        return "less"
    return "greater" if greater else "equal"


def _is_less_somewhere(first, second):
    for device, count in second:
        if count_of(first, device) < count:
            return True
    return False


def join(first, second):
    """Returns the vector with the greater one of both counts for each device."""
    counts = dict(first)
    for device, count in second:
        counts[device] = max(count, counts.get(device, 0))
    return _vector(counts)


def raised(vector, device, number):
    """Returns the vector with the count of a device set to a number."""
    counts = dict(vector)
    counts[device] = number
    return _vector(counts)


def _vector(counts):
    return tuple([(device, counts[device]) for device in sorted(counts)])


def counts_of(vector):
    """Returns the tuple of the counts of the devices 1 to 9."""
    return tuple([count_of(vector, device) for device in range(1, 10)])
