"""Plain readings of chapter 06: records, logs, and what a book knows of them."""

from folderkin.book import Book
from folderkin.coding import entry_bytes, number_bytes
from folderkin.store import Store
from tests.samples import shown

OWN, PEER, UPTO, INTENT = range(4)


def framed(body):
    """The record with a body, by the words of point 06.2."""
    data = [len(body) >> 8, len(body) & 255] + body
    first, second = 1, 0
    for byte in data:
        first = (first + byte) % 251
        second = (second + first) % 251
    return data + [first, second]


def record(row):
    """The record that tells (kind, device, entry, number)."""
    kind, device, entry, number = row
    if kind == UPTO:
        return framed([kind, device] + number_bytes(number))
    return framed([kind] + ([device] if kind == PEER else []) + entry_bytes(entry, number))


def log_of(rows):
    return [byte for row in rows for byte in record(row)]


def known(rows):
    """What rows tell: own entries, intents, entries of peers and numbers of peers."""
    own, intents, peers, uptos = {}, {}, {}, {}
    for kind, device, entry, number in rows:
        if kind == OWN:
            own[entry.name] = (entry, number)
            intents.pop(entry.name, None)
        elif kind == INTENT:
            intents[entry.name] = (entry, number)
        elif kind == PEER:
            peers[(device, entry.name)] = (entry, number)
        else:
            uptos[device] = number
    return own, intents, peers, uptos


def needed_rows(rows):
    """Point 06.5: the rows of what is needed, in their order."""
    own, intents, peers, uptos = known(rows)
    found = [(OWN, 0, *own[name]) for number, name in sorted((own[name][1], name) for name in own)]
    found += [(INTENT, 0, *intents[name]) for name in sorted(intents)]
    for device in range(1, 10):
        found += [(PEER, device, *peers[key]) for key in sorted(peers) if key[0] == device]
        found += [(UPTO, device, None, uptos[device])] if device in uptos else []
    return found


def book_of(rows, behind=()):
    """A book of a log that has these rows, and perhaps bytes behind them, with its store."""
    store = Store({}, log_of(rows) + list(behind))
    return Book(store), store


def told_by(book):
    """All that a book tells, as plain values."""
    peers = book.peer_devices()
    names = book.all_names()
    return shown([
        [(name, book.own(name)) for name in book.names()], book.behind(0),
        [(name, book.intent(name)) for name in book.intents()], names, book.next_number(), peers,
        [(device, book.upto(device)) for device in range(1, 10)],
        [(device, name, book.peer(device, name)) for device in range(1, 10) for name in book.peer_names(device)],
        [(name, book.peer_entries(name)) for name in names], book.needed()])


def expected_by(rows):
    """The same, by the plain readings, for the rows that were read or taken."""
    own, intents, peers, uptos = known(rows)
    names = sorted(set(own) | {name for _, name in peers})
    told = sorted({device for device, _ in peers} | set(uptos))
    numbers = [row[3] for row in rows if row[0] == OWN]
    return shown([
        [(name, own[name]) for name in sorted(own)],
        sorted(own.values(), key=lambda pair: (pair[1], pair[0].name)),
        [(name, intents[name][0]) for name in sorted(intents)], names, max(numbers, default=0) + 1, told,
        [(device, uptos.get(device, 0)) for device in range(1, 10)],
        [(*key, peers[key]) for key in sorted(peers)],
        [(name, [peers[key][0] for key in sorted(peers) if key[1] == name]) for name in names],
        log_of(needed_rows(rows))])
