"""The changes of own entries of devices, in order (chapter 14)."""


class Changes:
    """Rows (device, word, before, after), which devices note; several devices may note into one object."""

    def __init__(self):
        self._rows = []

    def note(self, device, word, before, after):
        """Notes that an own entry of a device, or None, became another one."""
        self._rows.append((device, word, before, after))

    def note_found(self, device, book):
        """Notes what the book of a device knows, but was not noted, as the power ended while it was taken."""
        rows = [row for row in self._rows if row[0] == device]
        # Each row is one record, so the numbers of the records go on behind the number of the rows.
        for entry, _ in book.behind(len(rows)):
            earlier = [row[3] for row in rows if row[3].name == entry.name]
            self.note(device, "found", earlier[-1] if earlier else None, entry)

    def rows(self):
        """Returns the list of the rows, in order."""
        return list(self._rows)
