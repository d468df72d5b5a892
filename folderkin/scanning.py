"""Scanning: finding what users did to files, as new own entries (chapter 07)."""

from folderkin.content import split
from folderkin.entries import edited


def agrees(store, entry, name):
    """Returns True if the file of a name agrees with an entry, or with None for no own entry, otherwise False."""
    file = store.read(name)
    if entry is None or entry.deleted:
        return file is None
    return file is not None and split(file[0]) == entry.blocks


def own_entry(book, name):
    """Returns the own entry of a name, or None."""
    pair = book.own(name)
    return None if pair is None else pair[0]


def scan_name(store, book, device, name, now):
    """Scans a name; returns the new own entry, or None."""
    base = own_entry(book, name)
    if agrees(store, base, name):
        return None
    entry = book.intent(name)
    # An intended content was put in place ahead of a power cut; otherwise a user changed the file.
    if entry is None or not agrees(store, entry, name):
        entry = _edit(store, base, device, book.next_number(), name, now)
    book.put(entry)
    return entry


def _edit(store, base, device, number, name, now):
    file = store.read(name)
    if file is None:
        return edited(base, name, device, number, True, now, ())
    content, time = file
    return edited(base, name, device, number, False, time, split(content))


def scan(store, book, device, now):
    """Scans a device; returns the list of the new own entries, in order."""
    found = []
    for name in sorted(set(store.names()) | set(book.names())):
        entry = scan_name(store, book, device, name, now)
        if entry is not None:
            found.append(entry)
    return found
