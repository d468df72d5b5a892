"""The book of a device: what it knows of its own entries, its intents and its peers (chapter 06)."""

from folderkin.coding import Reader, entry_bytes, number_bytes
from folderkin.errors import InvalidBytes

_OWN = 0
_PEER = 1
_UPTO = 2
_INTENT = 3
_MODULUS = 251
_SPARE = 400


def record_of(entry, number):
    """Returns the bytes of the record of an own entry."""
    return _framed([_OWN] + entry_bytes(entry, number))


def intent_record(entry, number):
    """Returns the bytes of the record of an intent."""
    return _framed([_INTENT] + entry_bytes(entry, number))


def peer_record(device, entry, number):
    """Returns the bytes of the record of an entry of a peer."""
    return _framed([_PEER, device] + entry_bytes(entry, number))


def upto_record(device, number):
    """Returns the bytes of the record of the number up to which the entries of a peer are known."""
    return _framed([_UPTO, device] + number_bytes(number))


def _framed(body):
    data = [len(body) // 256, len(body) % 256] + body
    return data + _check_of(data)


def _check_of(data):
    first = 1
    second = 0
    for byte in data:
        first = (first + byte) % _MODULUS
        second = (second + first) % _MODULUS
    return [first, second]


def read_log(data):
    """Returns the list of what the whole records tell, and the number of their bytes."""
    rows = []
    at = 0
    while True:
        end = _end_of_record(data, at)
        row = None if end is None else _told_by(data[at + 2:end - 2])
        if row is None:
            return rows, at
        rows.append(row)
        at = end


def _end_of_record(data, at):
    """Returns the index behind the record, or None if it is not complete or its check is wrong."""
    if at + 2 > len(data):
        return None
    behind = at + 2 + data[at] * 256 + data[at + 1]
    if behind + 2 > len(data) or data[behind:behind + 2] != _check_of(data[at:behind]):
        return None
    return behind + 2


def _told_by(body):
    """Returns what a body tells, (kind, device, entry, number), or None if it has another form."""
    reader = Reader(body)
    try:
        row = _read_body(reader)
    except InvalidBytes:
        return None
    return row if reader.at == len(body) else None


def _read_body(reader):
    kind = reader.byte(_OWN, _INTENT)
    device = reader.device() if kind == _PEER or kind == _UPTO else 0
    if kind == _UPTO:
        return kind, device, None, reader.number()
    entry, number = reader.entry()
    return kind, device, entry, number


def _bytes_for(row):
    """Returns the bytes of the record that tells this."""
    kind, device, entry, number = row
    if kind == _OWN:
        return record_of(entry, number)
    if kind == _PEER:
        return peer_record(device, entry, number)
    return upto_record(device, number) if kind == _UPTO else intent_record(entry, number)


class Book:
    """All that the records in the log of a store tell."""

    def __init__(self, store):
        self._store = store
        # A table for each kind and device, from names to (entry, number, number of the bytes of the record).
        self._tables = {}
        self._greatest = 0
        # Counted along, as encoding all that is known behind each record would take long.
        self._needed_size = 0
        rows, size = read_log(store.log())
        for row in rows:
            self._learn(row, len(_bytes_for(row)))
        if store.new_log():
            store.drop_new_log()
        if size < store.log_size():
            self.compact()

    def names(self):
        """Returns the ascending list of the names of the own entries."""
        return sorted(self._table(_OWN, 0))

    def own(self, name):
        """Returns the pair of the own entry of a name and its number, or None."""
        return self._pair(_OWN, 0, name)

    def next_number(self):
        """Returns the number of the next own entry."""
        return self._greatest + 1

    def put(self, entry):
        """Takes an own entry with the next number; returns the number."""
        number = self.next_number()
        self._take((_OWN, 0, entry, number))
        return number

    def behind(self, number):
        """Returns the list of the pairs of own entries with greater numbers, ascending by them."""
        pairs = [self.own(name) for name in self.names()]
        return sorted([pair for pair in pairs if pair[1] > number], key=lambda pair: (pair[1], pair[0].name))

    def all_names(self):
        """Returns the ascending list of the names of own entries and of those of peers."""
        names = self.names()
        for device in self.peer_devices():
            names.extend(self.peer_names(device))
        return sorted(set(names))

    def intents(self):
        """Returns the ascending list of the names of the intents."""
        return sorted(self._table(_INTENT, 0))

    def intent(self, name):
        """Returns the intended entry of a name, or None."""
        pair = self._pair(_INTENT, 0, name)
        return None if pair is None else pair[0]

    def intend(self, entry):
        """Takes an intent."""
        self._take((_INTENT, 0, entry, self.next_number()))

    def peer_devices(self):
        """Returns the ascending list of the peers of which something is known."""
        return sorted(set([device for kind, device in self._tables if kind == _PEER or kind == _UPTO]))

    def peer_names(self, device):
        """Returns the ascending list of the names of the entries of a peer."""
        return sorted(self._table(_PEER, device))

    def peer(self, device, name):
        """Returns the pair of the entry of a peer for a name and its number, or None."""
        return self._pair(_PEER, device, name)

    def peer_entries(self, name):
        """Returns the list of the entries of all peers for a name, ascending by the peers."""
        pairs = [self.peer(device, name) for device in self.peer_devices()]
        return [pair[0] for pair in pairs if pair is not None]

    def put_peer(self, device, entry, number):
        """Takes an entry of a peer, unless one with at least this number is known; returns True if it is taken."""
        known = self.peer(device, entry.name)
        if known is not None and known[1] >= number:
            return False
        self._take((_PEER, device, entry, number))
        return True

    def upto(self, device):
        """Returns the number up to which the entries of a peer are known, or 0."""
        pair = self._pair(_UPTO, device, "")
        return 0 if pair is None else pair[1]

    def put_upto(self, device, number):
        """Takes the number up to which the entries of a peer are known, if it is greater."""
        if number > self.upto(device):
            self._take((_UPTO, device, None, number))

    def needed(self):
        """Returns the bytes of what is needed."""
        data = []
        for entry, number in self.behind(0):
            data.extend(record_of(entry, number))
        for name in self.intents():
            entry, number = self._pair(_INTENT, 0, name)
            data.extend(intent_record(entry, number))
        for device in self.peer_devices():
            for name in self.peer_names(device):
                entry, number = self.peer(device, name)
                data.extend(peer_record(device, entry, number))
            # A number 0 may have been told by a foreign log.
            if self._pair(_UPTO, device, "") is not None:
                data.extend(upto_record(device, self.upto(device)))
        return data

    def compact(self):
        """Writes the log anew."""
        self._store.new_log_append(self.needed())
        self._store.switch_log()

    def _table(self, kind, device):
        return self._tables.get((kind, device), {})

    def _pair(self, kind, device, name):
        table = self._table(kind, device)
        if name not in table:
            return None
        entry, number, _ = table[name]
        return entry, number

    def _take(self, row):
        record = _bytes_for(row)
        self._store.log_append(record)
        self._learn(row, len(record))
        if self._store.log_size() > 2 * self._needed_size + _SPARE:
            self.compact()

    def _learn(self, row, size):
        kind, device, entry, number = row
        name = "" if entry is None else entry.name
        self._forget(kind, device, name)
        table = self._tables.setdefault((kind, device), {})
        table[name] = (entry, number, size)
        self._needed_size += size
        if kind == _OWN:
            self._greatest = max(self._greatest, number)
            self._forget(_INTENT, 0, name)

    def _forget(self, kind, device, name):
        table = self._table(kind, device)
        if name in table:
            self._needed_size -= table[name][2]
            del table[name]
