"""Things told by their numbers, by way of a store."""

from bucketfall.store import Store


def ordered(things, base):
    """A new list of the things by their numbers, those of one number in the order in which they stood."""
    store = Store(base)
    # A thing goes into the store under its place in the list, so that the very tuple can be told again.
    for at, thing in enumerate(things):
        store.put(thing[0], str(at))
    found = []
    while store.many > 0:
        name = store.take()[1]
        found.append(things[int(name)])
    return found
