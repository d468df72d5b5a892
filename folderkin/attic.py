"""The attic: contents that were replaced or removed, kept by a rule (chapter 13)."""


class Rule:
    """At most `each` contents of each name, and at most `total` bytes in all."""

    def __init__(self, each, total):
        self.each = each
        self.total = total

    def __eq__(self, other):
        return isinstance(other, Rule) and self.each == other.each and self.total == other.total


def keep(store, rule, name, vector, content):
    """Keeps a content; returns the list of what was let go, in order."""
    if (name, vector, content) not in store.attic():
        store.attic_put(name, vector, content)
    return tidy(store, rule)


def tidy(store, rule):
    """Lets go what is beyond the rule; returns the list of it, in order."""
    rows = store.attic()
    gone = []
    names = sorted(set([row[0] for row in rows]))
    for name in names:
        indexes = _indexes_of(rows, name)
        # What lies behind a content moves up when it is let go.
        for moved, index in enumerate(indexes[:max(0, len(indexes) - rule.each)]):
            store.attic_drop(index - moved)
            gone.append(rows.pop(index - moved))
    while _bytes_of(rows) > rule.total:
        store.attic_drop(0)
        gone.append(rows.pop(0))
    return gone


def _indexes_of(rows, name):
    return [index for index, row in enumerate(rows) if row[0] == name]


def _bytes_of(rows):
    return sum([len(row[2]) for row in rows])


def let_go(store, name, vector):
    """Lets go all contents of a name with a vector, the oldest first; returns how many there were."""
    indexes = [index for index, row in enumerate(store.attic()) if row[0] == name and row[1] == vector]
    for moved, index in enumerate(indexes):
        store.attic_drop(index - moved)
    return len(indexes)


def kept(store, name):
    """Returns the list of the pairs of vector and content of a name, the oldest first."""
    return [(row[1], row[2]) for row in store.attic() if row[0] == name]


def size_of(store):
    """Returns the number of bytes in the attic."""
    return _bytes_of(store.attic())
