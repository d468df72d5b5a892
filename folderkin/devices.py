"""Devices: they hear and answer letters, and take what others announced (chapter 12)."""

from folderkin.attic import keep
from folderkin.book import Book
from folderkin.changes import Changes
from folderkin.choosing import is_needed, steps_for
from folderkin.content import block_bytes
from folderkin.entries import alike, copy_name, copy_of, root_of
from folderkin.patterns import leaves_out
from folderkin.pulling import Pull, holds_block
from folderkin.scanning import agrees, own_entry, scan_name


class Device:
    """A device with a store, a book of it, a rule for its attic, and patterns of names that it leaves out."""

    def __init__(self, number, store, rule, patterns):
        self.number = number
        self.store = store
        self.rule = rule
        self.patterns = list(patterns)
        self.book = Book(store)
        self.changes = Changes()
        # The contents that are being brought together, by their names.
        self._pulls = {}
        # The pairs (peer, block) of what was refused.
        self._refused = {}

    def leaves_out(self, name):
        """Returns True if a name is left out, otherwise False."""
        return leaves_out(self.patterns, root_of(name))

    def scan(self, now):
        """Scans all names that are not left out; returns the list of the new own entries."""
        found = []
        for name in sorted(set(self.store.names()) | set(self.book.names())):
            entry = None if self.leaves_out(name) else self._scan_name(name, now)
            if entry is not None:
                found.append(entry)
        return found

    def _scan_name(self, name, now):
        """Scans a name; returns the new own entry, or None."""
        before = own_entry(self.book, name)
        entry = scan_name(self.store, self.book, self.number, name, now)
        if entry is not None:
            # An intent has a maker of its own, which is not the record that was just taken.
            is_edit = entry.maker == (self.number, self.book.next_number() - 1)
            self.changes.note(self.number, "edit" if is_edit else "take", before, entry)
        return entry

    def ask(self, peer):
        """Returns the letter that asks a peer for its new entries."""
        return "ask", self.book.upto(peer)

    def hear(self, peer, letter):
        """Hears a letter from a peer; returns the list of the letters to the peer."""
        word = letter[0]
        if word == "hello":
            return [self.ask(peer)]
        if word == "ask":
            return [("entries", letter[1], self.book.next_number() - 1, tuple(self.book.behind(letter[1])))]
        if word == "request":
            return [self._answer_for(letter[3])]
        if word == "entries":
            self._learn(peer, letter)
        elif word == "block":
            self._give(letter[1], letter[2])
        else:
            self._refused[(peer, letter[1])] = True
        return []

    def _answer_for(self, block):
        if holds_block(self.store, block):
            return "block", block, tuple(block_bytes(block))
        return "refused", block

    def _learn(self, peer, letter):
        _, behind, upto, pairs = letter
        # The peer may have again what it refused.
        self._refused = {key: True for key in self._refused if key[0] != peer}
        for entry, number in pairs:
            self.book.put_peer(peer, entry, number)
        # Otherwise entries may be lacking between what is known and what was told.
        if behind <= self.book.upto(peer):
            self.book.put_upto(peer, upto)

    def _give(self, block, data):
        for name in sorted(self._pulls):
            self._pulls[name].give(block, data)

    def needed(self):
        """Returns the ascending list of the needed names that are not left out."""
        return [name for name in self.book.all_names() if self._is_needed(name)]

    def _is_needed(self, name):
        return is_needed(self.book, name) and not self.leaves_out(name)

    def work(self, peers, now):
        """Takes the needed names; returns the list of the pairs of peers and letters to them."""
        letters = []
        self._work_ahead(peers, letters)
        for name in self._in_turn():
            # The names were found at the beginning; other names were taken since.
            if self._is_needed(name):
                self._take(name, peers, now, letters)
        return letters

    def _work_ahead(self, peers, letters):
        """Does what stands ahead of taking names: nothing at a device that both sends and receives."""

    def _in_turn(self):
        """Returns the list of the needed names: first those whose last step is to place, then the others."""
        names = self.needed()
        placed = [name for name in names if steps_for(self.book, name)[-1][0] == "place"]
        return placed + [name for name in names if name not in placed]

    def _take(self, name, peers, now, letters):
        """Takes a needed name; a request for a block that must be asked for is put into the letters."""
        if not agrees(self.store, own_entry(self.book, name), name):
            self._scan_name(name, now)
            if not self._is_needed(name):
                return
        steps = steps_for(self.book, name)
        if steps[0][0] == "copy":
            self._copy(steps[0][1], now)
        word, best = steps[-1]
        if word == "place" and not self._bring(best, peers, letters):
            return
        if word != "record":
            own = own_entry(self.book, name)
            self._keep_file(name, () if own is None else own.vector)
            self.book.intend(best)
            self._fill(name, best)
        self._put_winner(best)
        self._drop_pull(name)

    def _copy(self, own, now):
        """Lets the content of an own entry stand under the copy name, too."""
        name = copy_name(own)
        if self.store.read(name) is not None:
            # It may have been written ahead of a power cut.
            self._scan_name(name, now)
            return
        self.store.write(name, self.store.read(own.name)[0], own.time)
        entry = copy_of(own, self.number, self.book.next_number())
        self._put("copy", entry)

    def _bring(self, entry, peers, letters):
        """Brings the content of an entry together; returns True if it is whole, otherwise False."""
        pull = Pull(self.store, entry)
        self._pulls[entry.name] = pull
        block = pull.advance()
        if block is None:
            return True
        if block not in [letter[3] for _, letter in letters]:
            self._request(entry, block, peers, letters)
        return False

    def _request(self, entry, block, peers, letters):
        for peer in sorted(peers):
            if self._may_have(peer, entry, block):
                letters.append((peer, ("request", entry.name, entry.blocks.index(block), block)))
                return

    def _may_have(self, peer, entry, block):
        pair = self.book.peer(peer, entry.name)
        return pair is not None and alike(pair[0], entry) and (peer, block) not in self._refused

    def _keep_file(self, name, vector):
        """Keeps the content of a file, if there is one, in the attic."""
        file = self.store.read(name)
        if file is not None:
            keep(self.store, self.rule, name, vector, file[0])

    def _fill(self, name, best):
        """Puts the content of an entry, which is whole, in place, or removes the file for a deleted one or None."""
        if best is None or best.deleted:
            self.store.remove(name)
        else:
            self._pulls[name].place()

    def _put_winner(self, best):
        """Lets the winner become the own entry."""
        own = own_entry(self.book, best.name)
        self._put("join" if own is not None and alike(own, best) else "take", best)

    def _drop_pull(self, name):
        if name in self._pulls:
            del self._pulls[name]

    def _put(self, word, entry):
        """Takes an own entry, and notes it."""
        before = own_entry(self.book, entry.name)
        self.book.put(entry)
        self.changes.note(self.number, word, before, entry)
