"""One-way devices: senders, which take nothing, and receivers, which announce no changes (chapter 21)."""

from folderkin.choosing import known, wanted
from folderkin.devices import Device
from folderkin.entries import Entry, alike
from folderkin.scanning import agrees, own_entry
from folderkin.vectors import join, raised
from folderkin.worlds import World


class Sender(Device):
    """A device that hears, answers and scans, but takes nothing."""

    def __init__(self, number, store, rule, patterns):
        super().__init__(number, store, rule, patterns)

    def leaves_out(self, name):
        """Returns True if a name is left out, otherwise False."""
        return super().leaves_out(name)

    def scan(self, now):
        """Scans all names that are not left out; returns the list of the new own entries."""
        return super().scan(now)

    def ask(self, peer):
        """Returns the letter that asks a peer for its new entries."""
        return super().ask(peer)

    def hear(self, peer, letter):
        """Hears a letter from a peer; returns the list of the letters to the peer."""
        return super().hear(peer, letter)

    def needed(self):
        """Returns a new empty list: a sender needs nothing."""
        return []

    def work(self, peers, now):
        """Does nothing; returns a new empty list, as there are no letters."""
        return []

    def differing(self):
        """Returns the ascending list of the names in which the sender differs."""
        return [name for name in self.book.all_names() if not self.leaves_out(name) and self._differs(name)]

    def _differs(self, name):
        own = own_entry(self.book, name)
        best = wanted(self.book, name)
        return not best.deleted if own is None else not alike(own, best)

    def override(self, now):
        """Lets its own files stand in all names in which it differs; returns the list of the new own entries."""
        self.scan(now)
        found = []
        for name in self.differing():
            entry = self._overriding(name, now)
            self._put("override", entry)
            found.append(entry)
        return found

    def _overriding(self, name, now):
        """Returns the entry above all known ones that has the content of the own entry."""
        entries = known(self.book, name)
        vector = ()
        for entry in entries:
            vector = join(vector, entry.vector)
        number = self.book.next_number()
        height = 1 + max([entry.height for entry in entries])
        own = own_entry(self.book, name)
        deleted = own is None or own.deleted
        blocks = () if deleted else own.blocks
        maker = (self.number, number)
        return Entry(name, raised(vector, self.number, number), height, maker, deleted, now, blocks)


class Receiver(Device):
    """A device whose user's changes are not announced; it may set them back."""

    def __init__(self, number, store, rule, patterns):
        super().__init__(number, store, rule, patterns)
        # The names that are being set back.
        self._reverting = []

    def leaves_out(self, name):
        """Returns True if a name is left out, otherwise False."""
        return super().leaves_out(name)

    def scan(self, now):
        """Lets fitting intents become own entries; returns the list of them."""
        return super().scan(now)

    def _scan_name(self, name, now):
        # What fits neither the own entry nor an intent is the user's, and is not announced.
        return None if self._is_strange(name) else super()._scan_name(name, now)

    def ask(self, peer):
        """Returns the letter that asks a peer for its new entries."""
        return super().ask(peer)

    def hear(self, peer, letter):
        """Hears a letter from a peer; returns the list of the letters to the peer."""
        return super().hear(peer, letter)

    def needed(self):
        """Returns the ascending list of the needed names that are neither left out nor strange."""
        return super().needed()

    def _is_needed(self, name):
        return super()._is_needed(name) and not self._is_strange(name)

    def strange(self):
        """Returns the ascending list of the strange names."""
        names = sorted(set(self.store.names()) | set(self.book.names()))
        return [name for name in names if not self.leaves_out(name) and self._is_strange(name)]

    def _is_strange(self, name):
        """True if the file agrees neither with the own entry nor with an intent."""
        if agrees(self.store, own_entry(self.book, name), name):
            return False
        intent = self.book.intent(name)
        return intent is None or not agrees(self.store, intent, name)

    def revert(self):
        """Begins to set back the names that are strange now; returns the list of them."""
        self._reverting = self.strange()
        return list(self._reverting)

    def work(self, peers, now):
        """Sets back names, and takes the needed ones; returns the list of the pairs of peers and letters to them."""
        return super().work(peers, now)

    def _work_ahead(self, peers, letters):
        waiting = []
        for name in self._reverting:
            if self._is_strange(name) and not self._set_back(name, peers, letters):
                waiting.append(name)
        self._reverting = waiting

    def _set_back(self, name, peers, letters):
        """Sets back a strange name; returns True, or False if a block must be asked for first."""
        best = wanted(self.book, name)
        if best is not None and not best.deleted and not self._bring(best, peers, letters):
            return False
        is_new = best != own_entry(self.book, name)
        self._keep_file(name, ())
        if is_new:
            self.book.intend(best)
        self._fill(name, best)
        if is_new:
            self._put_winner(best)
        self._drop_pull(name)
        return True

    def _copy(self, own, now):
        """Makes no copy: what a receiver has was announced by others, who keep it."""


class OneWayWorld(World):
    """A world whose devices are of kinds: "both", "sender" and "receiver"."""

    def __init__(self, kinds, rule, patterns):
        self._kinds = list(kinds)
        super().__init__(len(kinds), rule, patterns)

    def _device_of(self, number, store, rule, patterns):
        kind = self._kinds[number - 1]
        if kind == "sender":
            return Sender(number, store, rule, patterns)
        if kind == "receiver":
            return Receiver(number, store, rule, patterns)
        return super()._device_of(number, store, rule, patterns)

    def obey(self, command):
        """Obeys a command; returns what is told for it."""
        if command[0] == "revert":
            return len(self.devices[command[1] - 1].revert())
        if command[0] != "override":
            return super().obey(command)
        done, found = self._let(command[1], lambda device: device.override(command[2]))
        return len(found) if done else None

    def user_edits(self):
        """Returns the list of what users replaced, removed or renamed, in order."""
        return super().user_edits()

    def history(self):
        """Returns the list of all changes of own entries, in order."""
        return super().history()
