"""Patterns of names: matching, following, writing and reading them (chapter 01)."""

from folderkin.errors import InvalidPattern
from folderkin.names import CHARACTERS

NO_SLASH = "-.0123456789ABCDEFGHIJKLMNOPQRSTUVWXYZ_abcdefghijklmnopqrstuvwxyz~"
MOST_PATTERNS = 20
MOST_ATOMS = 40
_MOST_LISTED = 33
_LEAST_RUN = 3


class Pattern:
    """A row of atoms, pairs of a string of characters and whether the atom repeats."""

    def __init__(self, atoms, negated=False):
        self.atoms = tuple(atoms)
        self.negated = negated

    def __eq__(self, other):
        return isinstance(other, Pattern) and self.atoms == other.atoms and self.negated == other.negated


def matches(pattern, name):
    """Returns True if the pattern matches the name, otherwise False."""
    places = start_places(pattern)
    for char in name:
        places = next_places(pattern, places, char)
    return len(pattern.atoms) in places


def leaves_out(patterns, name):
    """Returns True if the list of patterns leaves the name out, otherwise False."""
    for pattern in patterns:
        if matches(pattern, name):
            return not pattern.negated
    return False


def start_places(pattern):
    """Returns the places of the pattern before the first character."""
    return _with_skipped(pattern, [0])


def next_places(pattern, places, char):
    """Returns the places behind one more character, if `places` are those before it."""
    reached = []
    for place in places:
        if place < len(pattern.atoms):
            chars, repeats = pattern.atoms[place]
            if char in chars:
                reached.append(place if repeats else place + 1)
    return _with_skipped(pattern, reached)


def _with_skipped(pattern, reached):
    """The reached places and those behind their atoms that repeat, as an ascending tuple."""
    atoms = pattern.atoms
    marked = [False] * (len(atoms) + 1)
    for place in reached:
        marked[place] = True
        # An atom that repeats matches the empty run, too; the one behind it never repeats.
        if place < len(atoms) and atoms[place][1]:
            marked[place + 1] = True
    return tuple([place for place in range(len(marked)) if marked[place]])


def format_patterns(patterns):
    """Returns the text of a list of patterns, without a newline at its end."""
    return "\n".join([_format_pattern(pattern) for pattern in patterns])


def _format_pattern(pattern):
    sign = "!" if pattern.negated else ""
    return sign + "".join([_format_atom(chars, repeats) for chars, repeats in pattern.atoms])


def _format_atom(chars, repeats):
    if repeats:
        return "**" if chars == CHARACTERS else "*"
    if chars == NO_SLASH:
        return "?"
    if len(chars) == 1:
        return chars
    if "/" in chars or len(chars) <= _MOST_LISTED:
        return "[" + _format_items(chars) + "]"
    return "[!" + _format_items("".join([char for char in NO_SLASH if char not in chars])) + "]"


def _format_items(chars):
    parts = []
    run = ""
    # The - is written ahead of the runs, because amid them it would join two characters.
    for char in CHARACTERS[1:]:
        if char in chars:
            run += char
        else:
            parts.append(_format_run(run))
            run = ""
    parts.append(_format_run(run))
    return ("-" if "-" in chars else "") + "".join(parts)


def _format_run(run):
    return run if len(run) < _LEAST_RUN else run[0] + "-" + run[-1]


def parse_patterns(text):
    """Returns the list of patterns that the text writes. Raises InvalidPattern."""
    patterns = []
    at = 0
    for line in text.split("\n"):
        if line and not line.startswith("#"):
            if len(patterns) == MOST_PATTERNS:
                raise InvalidPattern(at)
            patterns.append(_read_pattern(text, at, at + len(line)))
        at += len(line) + 1
    return patterns


def _read_pattern(text, at, end):
    """Reads the pattern of the line that begins at the index `at` of the text and ends at `end`."""
    negated = text[at] == "!"
    if negated:
        at += 1
    if at == end:
        raise InvalidPattern(end)
    atoms = []
    while at < end:
        atom, behind = _read_atom(text, at, end)
        if len(atoms) == MOST_ATOMS or (atom[1] and atoms and atoms[-1][1]):
            raise InvalidPattern(at)
        atoms.append(atom)
        at = behind
    return Pattern(atoms, negated)


def _read_atom(text, at, end):
    """Returns the atom that begins at an index of the text, and the index behind it."""
    char = text[at]
    if text[at:at + 2] == "**":
        return (CHARACTERS, True), at + 2
    if char == "*":
        return (NO_SLASH, True), at + 1
    if char == "?":
        return (NO_SLASH, False), at + 1
    if char == "[":
        return _read_set(text, at, end)
    if char not in CHARACTERS:
        raise InvalidPattern(at)
    return (char, False), at + 1


def _read_set(text, at, end):
    """Returns the atom of the set whose [ has the index `at` in the text, and the index behind it."""
    close = text.find("]", at, end)
    if close == -1:
        raise InvalidPattern(at)
    others = text[at + 1] == "!"
    items = _read_items(text, at + 2 if others else at + 1, close)
    if others:
        chars = "".join([char for char in NO_SLASH if char not in items])
    else:
        chars = "".join([char for char in CHARACTERS if char in items])
    if chars == "":
        raise InvalidPattern(at)
    return (chars, False), close + 1


def _read_items(text, at, close):
    """Returns a dict with the characters of the items that stand ahead of the ] at the index `close`."""
    found = {}
    if text[at] == "-":
        found["-"] = True
        at += 1
    while at < close:
        low = text[at]
        if not _is_item(low):
            raise InvalidPattern(at)
        if text[at + 1] != "-":
            found[low] = True
            at += 1
            continue
        high = text[at + 2]
        # At the index of the ] itself this is the end of the set behind A-.
        if not _is_item(high) or high <= low:
            raise InvalidPattern(at + 2)
        for char in CHARACTERS:
            if low <= char <= high:
                found[char] = True
        at += 3
    return found


def _is_item(char):
    return char in CHARACTERS and char != "-"
