"""Whether two lists of patterns leave out the same names (chapter 01)."""

from folderkin.names import MOST_NAME
from folderkin.patterns import next_places, start_places
from folderkin.tracks import Pair, Search


def start_state(patterns):
    """Returns the state of a list before the first character."""
    return tuple([start_places(pattern) for pattern in patterns])


def next_state(patterns, state, char):
    """Returns the state of a list behind one more character."""
    return tuple([next_places(pattern, places, char) for pattern, places in zip(patterns, state)])


def first_difference(first, second):
    """Returns the first of the shortest names that part the two lists of patterns, or None."""
    search = Search(first, second)
    track = search.pair.track
    seen = {}
    waiting = {}
    layer = [(search.start, "")]
    for _ in range(MOST_NAME):
        further = []
        for bits, name in layer:
            for char, moved in zip(track.chars, track.further(bits)):
                if moved in seen:
                    continue
                seen[moved] = True
                if search.pair.differs(moved):
                    return name + char
                needed = search.needed(moved)
                if needed not in waiting:
                    waiting[needed] = True
                    further.append((needed, name + char))
        layer = further
    return None


def relation(first, second):
    """Returns a relation that shows that the two lists leave out the same names, or None."""
    if first_difference(first, second) is not None:
        return None
    pair = Pair(first, second)
    # The dict keeps the order in which names, shorter ones first, lead to the states.
    lengths = {}
    layer = [pair.bits_of(start_state(first), start_state(second))]
    for length in range(1, MOST_NAME + 1):
        further = []
        for bits in layer:
            for moved in pair.track.further(bits):
                if moved not in lengths:
                    lengths[moved] = length
                    further.append(moved)
        layer = further
    rows = []
    for bits, length in lengths.items():
        first_state, second_state = pair.states_of(bits)
        rows.append((first_state, second_state, length))
    return tuple(rows)


def is_relation(first, second, rows):
    """Returns True if the rows show that the two lists leave out the same names, otherwise False."""
    pair = Pair(first, second)
    lengths = {}
    for first_state, second_state, length in rows:
        bits = pair.bits_of(first_state, second_state)
        if pair.differs(bits):
            return False
        lengths[bits] = min(length, lengths.get(bits, length))
    start = pair.bits_of(start_state(first), start_state(second))
    if not _all_within(pair.track.further(start), lengths, 1):
        return False
    for bits, length in lengths.items():
        if length < MOST_NAME and not _all_within(pair.track.further(bits), lengths, length + 1):
            return False
    return True


def _all_within(states, lengths, most):
    """True if all states stand in rows with at most this length."""
    for bits in states:
        if lengths.get(bits, most + 1) > most:
            return False
    return True


def without_idle(patterns):
    """Returns a new list of the patterns without those that have no effect."""
    kept = list(patterns)
    for index in reversed(range(len(patterns))):
        shorter = kept[:index] + kept[index + 1:]
        if first_difference(kept, shorter) is None:
            kept = shorter
    return kept
