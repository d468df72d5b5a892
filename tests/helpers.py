"""Plain readings of the document, and made-up values, for the tests."""

from functools import lru_cache

from folderkin.comparing import next_state, start_state
from folderkin.names import CHARACTERS, MOST_NAME
from folderkin.patterns import Pattern, leaves_out, parse_patterns

NO_SLASH = CHARACTERS.replace("/", "")
ANY_RUN = (CHARACTERS, True)
PART_RUN = (NO_SLASH, True)
ANY_ONE = (NO_SLASH, False)


def one(chars):
    """The atom of one of these characters."""
    return ("".join(sorted(chars)), False)


@lru_cache(maxsize=None)
def plainly_matches(atoms, name):
    """Point 01.2: the name is a row of parts, of which each atom matches one."""
    if not atoms:
        return name == ""
    (chars, repeats), rest = atoms[0], atoms[1:]
    if not repeats:
        return name != "" and name[0] in chars and plainly_matches(rest, name[1:])
    for end in range(len(name) + 1):
        if all(char in chars for char in name[:end]) and plainly_matches(rest, name[end:]):
            return True
    return False


def plainly_leaves_out(patterns, name):
    """Point 01.3."""
    first = [pattern for pattern in patterns if plainly_matches(pattern.atoms, name)][:1]
    return bool(first) and not first[0].negated


def random_atoms(rng, most, chars="ab/", many=3):
    """A row of at most `most` atoms, of which at most `many` do not repeat and have several characters."""
    atoms = []
    for _ in range(rng.randint(1, most)):
        kind = rng.random()
        if kind < 0.35 and not (atoms and atoms[-1][1]):
            atoms.append(rng.choice([ANY_RUN, PART_RUN]))
        elif kind < 0.55 and many > 0:
            many -= 1
            atoms.append(rng.choice([ANY_ONE, one("ab"), one("a/"), one(CHARACTERS.replace("b", ""))]))
        else:
            atoms.append(one(rng.choice(chars)))
    return tuple(atoms)


# In the made-up patterns all other characters are in the same atoms as the -, and come behind it.
TELLING = "-/abc"


def random_pattern(rng, most=5, chars="ab/"):
    """A pattern of at most `most` atoms."""
    return Pattern(random_atoms(rng, most, chars), rng.random() < 0.4)


def random_patterns(rng, most_patterns=3, most=5, chars="ab/"):
    """A list of at most `most_patterns` patterns."""
    return [random_pattern(rng, most, chars) for _ in range(rng.randint(0, most_patterns))]


def plain_states(first, second, chars=CHARACTERS):
    """The pairs of states that names lead to, each with the first of its shortest names, in their order.

    Names are searched layer by layer; of the names that lead to one pair of states,
    what is behind the first one is behind the others, too.
    """
    found = {}
    layer = [(start_state(first), start_state(second), "")]
    for _ in range(MOST_NAME):
        further = []
        for left, right, name in layer:
            for char in chars:
                pair = (next_state(first, left, char), next_state(second, right, char))
                if pair not in found:
                    found[pair] = name + char
                    further.append((*pair, name + char))
        layer = further
    return found


def plain_difference(first, second, chars=CHARACTERS):
    """The first of the shortest names that part two lists, or None."""
    for name in plain_states(first, second, chars).values():
        if leaves_out(first, name) != leaves_out(second, name):
            return name
    return None


def state_leaves_out(patterns, state):
    """Point 01.8: whether a list leaves out what leads to a state."""
    for pattern, places in zip(patterns, state):
        if len(pattern.atoms) in places:
            return not pattern.negated
    return False


def plainly_is_relation(first, second, rows):
    """Point 01.8, sentence by sentence."""
    for left, right, _ in rows:
        if state_leaves_out(first, left) != state_leaves_out(second, right):
            return False
    for char in CHARACTERS:
        left = next_state(first, start_state(first), char)
        right = next_state(second, start_state(second), char)
        if (left, right, 1) not in list(rows):
            return False
    for left, right, length in rows:
        lesser = [row for row in rows if row[:2] == (left, right) and row[2] < length]
        if length >= MOST_NAME or lesser:
            continue
        for char in CHARACTERS:
            behind = (next_state(first, left, char), next_state(second, right, char))
            if not [row for row in rows if row[:2] == behind and row[2] <= length + 1]:
                return False
    return True


def both(first, second):
    """The lists that two texts write."""
    return parse_patterns(first), parse_patterns(second)


def changed(rng, patterns):
    """A list that differs a little from another one, and may leave out the same names."""
    patterns = list(patterns)
    kind = rng.randrange(4)
    if kind == 0 and len(patterns) > 1:
        at = rng.randrange(len(patterns) - 1)
        patterns[at], patterns[at + 1] = patterns[at + 1], patterns[at]
    elif kind == 1 and patterns:
        del patterns[rng.randrange(len(patterns))]
    elif kind == 2:
        patterns.append(random_pattern(rng, 3))
    elif patterns:
        at = rng.randrange(len(patterns))
        atoms = list(patterns[at].atoms)
        atoms[rng.randrange(len(atoms))] = one(rng.choice(["a", "ab", "/"]))
        patterns[at] = Pattern(atoms, patterns[at].negated)
    return patterns


# Lists that leave out the same names.
ALIKE = [
    ("", ""), ("", "!a"), ("**", "?**\n/**"), ("?*", "*?"), ("a\nb", "[ab]"), ("a\nb", "b\na"), ("!ab\na*", "!ab\na*"),
    ("**a**", "**a*\n**a*/**"), ("a*\n!ab", "a*"), ("!a*\nab", "!a*"), ("*a*\n!**", "*a*"), ("**\nab", "**"),
    ("**/**\n*", "**"), ("*/*/*\n*/*", "*/*\n*/*/*"), ("[-.-~]**", "**"), ("a\n!aa\nb", "b\na"),
]
# Lists that names of 40 characters part, or of 41 characters alone.
PARTED_AT_40 = ("!" + "a" * 38 + "**\n**bb", "**bb")
PARTED_AT_41 = ("!" + "a" * 38 + "**\n**bbb", "**bbb")
# Twice this list is at the bounds of point 01.9: 8 patterns with 48 atoms, of
# which 12 do not repeat and have more than one character.
BOUND = "!**g*h\n**a??????\n!**b**c**d\n**e**f**i"
