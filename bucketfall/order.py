"""Things told by their numbers, by way of a store."""

from bucketfall.store import Store


def ordered(things, base):
    """A new list of the things by their numbers, those of one number in the order in which they stood."""
    store = Store(base)
    for number, name in things:
        store.put(number, name)
    found = []
    while store.many > 0:
        number, name, _ = store.take()
        found.append((number, name))
    return found
