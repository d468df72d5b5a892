"""The states of lists of patterns as the bits of one integer.

Comparing two lists may visit very many states. One integer for all places of
all patterns makes a step a few operations, whatever the number of patterns is.
"""

from folderkin.names import CHARACTERS
from folderkin.patterns import Pattern, start_places


class Track:
    """Follows a row of patterns; each place of each pattern has a bit."""

    def __init__(self, patterns):
        self.offsets = []
        self.masks = []
        self.repeats = 0
        offset = 0
        for pattern in patterns:
            many = len(pattern.atoms) + 1
            self.offsets.append(offset)
            self.masks.append(((1 << many) - 1) << offset)
            for place, (_, repeats) in enumerate(pattern.atoms):
                if repeats:
                    self.repeats |= 1 << (offset + place)
            offset += many
        # Characters that are in the same atoms lead to the same states: the least one stands for all.
        self.chars = []
        self.steps = []
        for char in CHARACTERS:
            step = self._step(patterns, char)
            if step not in self.steps:
                self.chars.append(char)
                self.steps.append(step)

    def _step(self, patterns, char):
        """The bits of the atoms with a character: of those that repeat, and of the others."""
        stay = 0
        move = 0
        for pattern, offset in zip(patterns, self.offsets):
            for place, (chars, repeats) in enumerate(pattern.atoms):
                if char in chars and repeats:
                    stay |= 1 << (offset + place)
                elif char in chars:
                    move |= 1 << (offset + place)
        return stay, move

    def bits_of(self, state):
        """The bits of a state, a row of the places of each pattern."""
        bits = 0
        for places, offset in zip(state, self.offsets):
            for place in places:
                bits |= 1 << (offset + place)
        return bits

    def state_of(self, bits):
        """The state that has these bits."""
        return tuple([self._places(bits & mask, offset) for mask, offset in zip(self.masks, self.offsets)])

    def _places(self, bits, offset):
        bits = bits >> offset
        return tuple([place for place in range(bits.bit_length()) if (bits >> place) & 1])

    def further(self, bits):
        """The bits behind one more character, for each of `chars`."""
        repeats = self.repeats
        reached = [(bits & stay) | ((bits & move) << 1) for stay, move in self.steps]
        return [moved | ((moved & repeats) << 1) for moved in reached]


class Pair:
    """Follows two lists of patterns at once."""

    def __init__(self, first, second):
        self.count = len(first)
        self.track = Track([*first, *second])
        ends = []
        for pattern, mask in zip([*first, *second], self.track.masks):
            # The bit of the place behind all atoms, where the pattern matches.
            ends.append((mask & ~(mask >> 1), not pattern.negated))
        self.first_ends = ends[:len(first)]
        self.second_ends = ends[len(first):]

    def bits_of(self, first_state, second_state):
        """The bits of the states of both lists."""
        return self.track.bits_of(first_state + second_state)

    def states_of(self, bits):
        """The states of both lists that have these bits."""
        state = self.track.state_of(bits)
        return state[:self.count], state[self.count:]

    def differs(self, bits):
        """True if one list leaves out what leads to these bits, and the other one does not."""
        return _leaves_out(self.first_ends, bits) != _leaves_out(self.second_ends, bits)


def _leaves_out(ends, bits):
    for end, left_out in ends:
        if bits & end:
            return left_out
    return False


class Search:
    """Follows two lists of patterns as far as longer names may part them.

    Places that change nothing for longer names are taken out of the states, so that
    patterns that have no effect any more do not multiply the states to visit.
    """

    def __init__(self, first, second):
        # The last pattern of each list is not begun: its place stands for a list that,
        # whatever follows, leaves all longer names out.
        every = Pattern([(CHARACTERS, True)])
        self.pair = Pair([*first, every], [*second, every])
        track = self.pair.track
        patterns = [*first, every, *second, every]
        begun = [start_places(pattern) for pattern in first] + [()]
        begun.extend([start_places(pattern) for pattern in second])
        self.start = track.bits_of(begun)
        self.covers = []
        rows = []
        for pattern, offset, mask in zip(patterns, track.offsets, track.masks):
            self.covers.extend(_covers(pattern, offset))
            rows.append((mask & (mask >> 1), _forever(pattern, offset), not pattern.negated))
        self.first_rows = rows[:len(first) + 1]
        self.second_rows = rows[len(first) + 1:]

    def needed(self, bits):
        """The bits of a state that may change what is left out of longer names."""
        for place, others in self.covers:
            if bits & place:
                bits &= others
        return _deciding(self.first_rows, bits) | _deciding(self.second_rows, bits)


def _covers(pattern, offset):
    """For places of atoms that repeat: the place's bit, and a mask without the places that it makes needless."""
    covers = []
    for place, (chars, repeats) in enumerate(pattern.atoms):
        below = place
        # What matches on from a place below goes through characters that this atom takes as well.
        while repeats and below > 0 and (chars == CHARACTERS or "/" not in pattern.atoms[below - 1][0]):
            below -= 1
        if below < place:
            covers.append((1 << (offset + place), ~(((1 << (place - below)) - 1) << (offset + below))))
    return covers


def _forever(pattern, offset):
    """The bit of the place from which the pattern matches, whatever follows, or 0."""
    last = len(pattern.atoms) - 1
    if last < 0 or pattern.atoms[last] != (CHARACTERS, True):
        return 0
    return 1 << (offset + last)


def _deciding(rows, bits):
    """The bits of one list that decide about longer names."""
    left_out = False
    kept = 0
    for mask, forever, sign in rows[::-1]:
        if bits & forever:
            left_out = sign
            kept = 0
        elif bits & mask and (kept or sign != left_out):
            # Ahead of nothing but its own outcome, a pattern would change nothing.
            kept |= bits & mask
    return kept | rows[-1][1] if left_out else kept
