"""Choosing which content stands for a name, and what has to be done for it (chapter 10)."""

from folderkin.entries import alike, copy_name, winner
from folderkin.scanning import own_entry
from folderkin.vectors import compare


def known(book, name):
    """Returns the list of the known entries: the own one, if there is one, and then those of the peers."""
    own = own_entry(book, name)
    return ([] if own is None else [own]) + book.peer_entries(name)


def wanted(book, name):
    """Returns the winner of the known entries, or None if there are none."""
    entries = known(book, name)
    return winner(entries) if entries else None


def needed(book):
    """Returns the ascending list of the needed names."""
    return [name for name in book.all_names() if is_needed(book, name)]


def is_needed(book, name):
    """Returns True if a name is needed, otherwise False."""
    return own_entry(book, name) != wanted(book, name)


def steps_for(book, name):
    """Returns the list of the steps for a needed name."""
    own = own_entry(book, name)
    best = wanted(book, name)
    steps = [("copy", own)] if _must_copy(book, own, best) else []
    return steps + [(_last_word(own, best), best)]


def _must_copy(book, own, best):
    if own is None or own.deleted or alike(own, best):
        return False
    if compare(own.vector, best.vector) in ("less", "equal"):
        return False
    copy = copy_name(own)
    return copy != own.name and not known(book, copy)


def _last_word(own, best):
    if best.deleted:
        return "record" if own is None or own.deleted else "remove"
    return "record" if own is not None and alike(own, best) else "place"
