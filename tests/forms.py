"""The written forms of chapter 08, and a plain search through them.

A form is a row of parts. A part is a set of bytes, of which one stands there; a pair of such a set and a function
that tells for the byte what stands behind it; or a function without parameters. Functions tell a list of forms,
of which one stands there. Nothing here decides on one form before it must: all of them are followed at once.
Each form can be written to its end, so bytes begin a written form exactly if some form is left behind them.
"""

from itertools import combinations

from folderkin.names import CHARACTERS

ANY = frozenset(range(256))
CHARS = frozenset(ord(char) for char in CHARACTERS)


def span(least, most):
    return frozenset(range(least, most + 1))


def only(byte):
    return frozenset([byte])


def number():
    return [[ANY] * 4]


def positive():
    return [[only(0)] * zeros + [span(1, 255)] + [ANY] * (3 - zeros) for zeros in range(4)]


def device():
    return [[span(1, 9)]]


def name():
    return [[(span(1, 40), lambda size: [[CHARS] * size])]]


def row():
    return [[(span(1, 4), lambda size: [[ANY] * size])]]


def vector():
    def pairs(size):
        forms = []
        for devices in combinations(range(1, 10), size):
            form = []
            for one in devices:
                form += [only(one), positive]
            forms.append(form)
        return forms

    return [[(span(1, 9), pairs)]]


def blocks():
    return [[(ANY, lambda size: [[only(4), ANY, ANY, ANY, ANY] * (size - 1) + [row] * min(size, 1)])]]


def entry():
    head = [positive, name, vector, positive, device, positive]
    return [head + [only(1), number, only(0)], head + [only(0), number, blocks]]


def letter():
    pairs = (ANY, lambda high: [[(ANY, lambda low: [[entry] * (high * 256 + low)])]])
    return [
        [only(1), device], [only(2), number], [only(3), number, number, pairs], [only(4), name, span(0, 254), row],
        [only(5), row, row], [only(6), row]]


def letters():
    return [[], [letter, letters]]


def opened(form):
    """The forms, as chains of a part and what is behind it, that begin with a set of bytes, or are empty."""
    if form == ():
        return [()]
    part, behind = form
    if not callable(part):
        return [form]
    found = []
    for parts in part():
        found += opened(chained(parts, behind))
    return found


def chained(parts, behind):
    for part in reversed(parts):
        behind = (part, behind)
    return behind


def followed(form, byte):
    """The forms that are left behind one more byte."""
    if form == ():
        return []
    part, behind = form
    chars, further = part if isinstance(part, tuple) else (part, None)
    if byte not in chars:
        return []
    if further is None:
        return opened(behind)
    return [left for parts in further(byte) for left in opened(chained(parts, behind))]


def search(part, data, at=0, to_end=True):
    """What a plain search finds for bytes from an index on: (place, whether it is a whole written form).

    The place is the index behind the longest beginning that is also one of a written form. Unless the
    form has to go to the end of the bytes, the search ends where the form does.
    """
    forms = opened((part, ()))
    while at < len(data):
        if () in forms and not to_end:
            return at, True
        left = [further for form in forms for further in followed(form, data[at])]
        if not left:
            return at, False
        forms = left
        at += 1
    return at, () in forms
