"""Devices of made-up stores, for the tests."""

from copy import deepcopy

from folderkin.attic import Rule
from folderkin.content import block_bytes, split
from folderkin.devices import Device
from folderkin.errors import PowerCut
from folderkin.patterns import parse_patterns
from folderkin.store import Store, from_durable
from folderkin.worlds import World
from tests.records import INTENT, OWN, PEER, UPTO, log_of, told_by
from tests.samples import all_of, entry, shown

WIDE = Rule(9, 1000)
# Contents of 4 equal bytes, and the numbers of their blocks.
A, B, C, D = [1] * 4, [2] * 4, [3] * 4, [4] * 4
BA, BB, BC, BD = [split(content)[0] for content in (A, B, C, D)]


def store_of(files=(), rows=(), attic=(), temps=()):
    """A store with these files (contents, or pairs with times), rows in its log, and so on, and no writes yet."""
    files = {name: value if isinstance(value, tuple) else (value, 1) for name, value in dict(files).items()}
    store = Store(files, log_of(rows))
    for row in attic:
        store.attic_put(*row)
    for name, content in dict(temps).items():
        store.append_temp(name, content)
    return from_durable(store.durable())


def device_of(files=(), rows=(), attic=(), temps=(), number=1, rule=WIDE, patterns="", made=Device):
    """A device of such a store."""
    return made(number, store_of(files, rows, attic, temps), rule, parse_patterns(patterns))


def own(value, number=1):
    return (OWN, 0, value, number)


def peer(device, value, number=1):
    return (PEER, device, value, number)


def upto(device, number):
    return (UPTO, device, None, number)


def intent(value, number=1):
    return (INTENT, 0, value, number)


def wants(content, **parts):
    """An entry with this content, which is above the other ones that are made here, of device 2."""
    values = {"vector": ((2, 5),), "height": 5, "maker": (2, 5), "time": 20, "blocks": split(content)}
    values.update(parts)
    return entry(**values)


def has(content, **parts):
    """An entry with this content, below that of `wants`."""
    return entry(**{"vector": ((1, 1),), "maker": (1, 1), "blocks": split(content), **parts})


def gives(block):
    """The letter that gives a block."""
    return ("block", block, tuple(block_bytes(block)))


def state(device):
    """All that can be seen of a device, as plain values."""
    return shown([all_of(device.store), told_by(device.book), device.needed(), device.changes.rows()])


def all_seen(value):
    """Any argument as plain values: worlds and devices as all that can be seen of them."""
    if isinstance(value, World):
        lines = [[value.lines.is_joined(a.number, b.number) for a in value.devices] for b in value.devices]
        totals = [value.lines.total(word) for word in ("sent", "taken", "doubled", "lost", "waiting")]
        return [state(device) for device in value.devices], lines, totals, shown(value.history()), value.user_edits()
    if isinstance(value, Device):
        return state(value)
    if isinstance(value, Store):
        return all_of(value), value.done()
    if isinstance(value, (list, tuple)):
        return type(value)(all_seen(item) for item in value)
    return shown(value)


def unchanged(test, call, *args):
    """What a call returns, if it changed nothing that it was passed."""
    before = deepcopy(all_seen(args))
    found = call(*args)
    test.assertEqual(all_seen(args), before)
    return found


def cut_offs(build, work, go_on):
    """Yields (budget, device) for each budget with which work(device) is cut off: the device that is made of what
    the store of such a device then kept, behind go_on(device); and at the end (None, device) for work that was done
    wholly, behind go_on, too."""
    budget = 0
    while True:
        device = build()
        device.store.set_budget(budget)
        try:
            work(device)
        except PowerCut as cut:
            assert cut.place == device.store.done()
            again = device.__class__(
                device.number, from_durable(device.store.durable()), device.rule, device.patterns)
            go_on(again)
            yield budget, again
        else:
            device.store.set_budget(None)
            go_on(device)
            yield None, device
            return
        budget += 1
