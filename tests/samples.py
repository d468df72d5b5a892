"""Made-up values, and stores whose power ends, for the tests."""

from copy import deepcopy

from folderkin.content import split
from folderkin.entries import Entry
from folderkin.errors import InvalidBytes, PowerCut
from folderkin.names import CHARACTERS
from folderkin.store import from_durable

LARGEST = 4294967295
NUMBERS = (1, 2, 255, 256, 65535, 65536, 16777216, LARGEST)
PARTS = ("name", "vector", "height", "maker", "deleted", "time", "blocks")


def entry(**parts):
    """An entry with these parts; the others are the same in all entries that are made here."""
    values = {
        "name": "a", "vector": ((1, 4),), "height": 1, "maker": (1, 4), "deleted": False, "time": 10, "blocks": (353,)}
    values.update(parts)
    return Entry(*[values[part] for part in PARTS])


def gone(**parts):
    """A deleted entry."""
    return entry(deleted=True, blocks=(), **parts)


def parts_of(value):
    return tuple(getattr(value, part) for part in PARTS)


def shown(value):
    """A value with entries as tuples, which can be compared and printed."""
    if isinstance(value, Entry):
        return parts_of(value)
    if isinstance(value, (list, tuple)):
        return type(value)(shown(item) for item in value)
    return value


def random_number(rng, least=1):
    return rng.choice([least, least, rng.randint(1, 9), rng.choice(NUMBERS), rng.randint(1, LARGEST)])


def random_name(rng, most=40):
    return "".join(rng.choice(CHARACTERS) for _ in range(rng.choice([1, 1, 2, 3, rng.randint(1, most), most])))


def random_vector(rng):
    devices = sorted(rng.sample(range(1, 10), rng.choice([1, 1, 2, 3, 9])))
    return tuple((device, random_number(rng)) for device in devices)


def random_content(rng, most=30):
    return [rng.randrange(256) for _ in range(rng.choice([0, 1, 3, 4, 5, 8, rng.randint(0, most)]))]


def random_entry(rng, name=None):
    deleted = rng.random() < 0.3
    return Entry(
        random_name(rng) if name is None else name, random_vector(rng), random_number(rng),
        (rng.randint(1, 9), random_number(rng)), deleted, random_number(rng, 0),
        () if deleted else split(random_content(rng)))


def random_block(rng):
    size = rng.randint(1, 4)
    return (1 << (8 * size)) + rng.randrange(1 << (8 * size))


def random_letter(rng):
    kind = rng.randrange(6)
    if kind == 0:
        return ("hello", rng.randint(1, 9))
    if kind == 1:
        return ("ask", random_number(rng, 0))
    if kind == 2:
        pairs = tuple((random_entry(rng), random_number(rng)) for _ in range(rng.randint(0, 3)))
        return ("entries", random_number(rng, 0), random_number(rng, 0), pairs)
    if kind == 3:
        return ("request", random_name(rng), rng.randrange(255), random_block(rng))
    if kind == 4:
        return ("block", random_block(rng), tuple(rng.randrange(256) for _ in range(rng.randint(1, 4))))
    return ("refused", random_block(rng))


def place_of(call, *args):
    """The place of the InvalidBytes that a call raises, or None if it raises nothing."""
    try:
        call(*args)
    except InvalidBytes as error:
        return error.place
    return None


def all_of(store):
    """All that a store keeps."""
    # Copied, so that it stays as it is even if the store returned lists of its own.
    return deepcopy((
        [(name, store.read(name)) for name in store.names()],
        [(name, store.temp(name)) for name in store.temp_names()], store.attic(), store.log(), store.new_log()))


def power_cuts(store, work):
    """Yields (budget, what is kept, what was returned) for each budget with which work(store) is cut off, and then
    once more for work that is done wholly. `what is kept` is a store made of what was kept; what was returned is
    None if the power ended."""
    kept = store.durable()
    budget = 0
    while True:
        tried = from_durable(kept)
        tried.set_budget(budget)
        try:
            returned = work(tried)
        except PowerCut as cut:
            assert cut.place == budget == tried.done()
            yield budget, from_durable(tried.durable()), None
        else:
            assert tried.done() == budget
            yield budget, from_durable(tried.durable()), (returned,)
            return
        budget += 1
