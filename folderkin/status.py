"""How far a device and its peers are, as the device knows (chapter 20)."""

from folderkin.choosing import is_needed, steps_for, wanted
from folderkin.entries import alike
from folderkin.scanning import agrees, own_entry

_STATES = ("edited", "needed", "joining", "alike")


def state_of(device, name):
    """Returns the state of a name that is not left out."""
    if not agrees(device.store, own_entry(device.book, name), name):
        return "edited"
    if not is_needed(device.book, name):
        return "alike"
    return "joining" if steps_for(device.book, name)[-1][0] == "record" else "needed"


def states(device):
    """Returns the list of the pairs of name and state of all counted names that are not left out, ascending."""
    names = sorted(set(device.store.names()) | set(device.book.all_names()))
    return [(name, state_of(device, name)) for name in names if not device.leaves_out(name)]


def lacking(device, peer):
    """Returns the list of the pairs of the names that a peer lacks and the blocks that must come to it, ascending."""
    rows = []
    there = _announced_blocks(device.book, peer)
    for name in device.book.all_names():
        entry = wanted(device.book, name)
        if not device.leaves_out(name) and _lacks(device.book, peer, entry):
            blocks = []
            for block in entry.blocks:
                if block not in there:
                    there[block] = True
                    blocks.append(block)
            rows.append((name, tuple(blocks)))
    return rows


def _announced_blocks(book, peer):
    """Returns a dict with all blocks of the entries that a peer has announced."""
    entries = [book.peer(peer, name)[0] for name in book.peer_names(peer)]
    return {block: True for entry in entries for block in entry.blocks}


def _lacks(book, peer, entry):
    """True if the peer has announced another entry of the name than a device wants."""
    pair = book.peer(peer, entry.name)
    if entry.deleted:
        return pair is not None and not pair[0].deleted
    return pair is None or not alike(pair[0], entry)


def summary(device, peers):
    """Returns the dict of the numbers of files, of their bytes, of names in each state, and of lacking blocks."""
    names = [name for name in device.store.names() if not device.leaves_out(name)]
    found = [state for _, state in states(device)]
    numbers = {"files": len(names), "bytes": sum([len(device.store.read(name)[0]) for name in names])}
    for state in _STATES:
        numbers[state] = found.count(state)
    numbers["lacking"] = sum([len(blocks) for peer in peers for _, blocks in lacking(device, peer)])
    return numbers
