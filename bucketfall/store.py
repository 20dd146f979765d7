"""The store: things lie in buckets by the place where their numbers part from that of the last one gone."""

from bucketfall.errors import Bare, Late
from bucketfall.figures import check_base, check_number, parting


def number_of(thing):
    """The number of a thing, which is a tuple of its number, its name and the count of its moves."""
    return thing[0]


def first_of_least(lying):
    """The first one of the things of the least number in a bucket."""
    # Of several that are least, min gives the one that stands first.
    return min(lying, key=number_of)


class Store:
    """Things, each by a number, of which only the least may go off."""

    def __init__(self, base):
        check_base(base)
        self.base = base
        self.last = 0
        self.many = 0
        self.moves = 0
        # Only buckets that are not empty are kept: there may be far more places than things.
        self._buckets = {}

    def put(self, number, name):
        """A thing comes."""
        check_number(number)
        if number < self.last:
            raise Late("a number is not less than that of the last one gone")
        self._set_down(parting(number, self.last, self.base), (number, name, 0))
        self.many += 1

    def take(self):
        """The thing that goes off: its number, its name and the count of its moves."""
        at = self._lowest()
        if at > 0:
            self._fall(at)
        gone = self._buckets[0].pop(0)
        if len(self._buckets[0]) == 0:
            del self._buckets[0]
        self.many -= 1
        return gone

    def least(self):
        """The number and the name of the thing that would go off now."""
        number, name, _ = first_of_least(self._buckets[self._lowest()])
        return (number, name)

    def rows(self):
        """The bucket's number, the number, the name and the count of moves of each thing that is there."""
        told = []
        for at in sorted(self._buckets):
            for number, name, moves in self._buckets[at]:
                told.append((at, number, name, moves))
        return told

    def _lowest(self):
        """The least number of a bucket that is not empty."""
        if self.many == 0:
            raise Bare("the store has no things")
        return min(self._buckets)

    def _set_down(self, at, thing):
        """Lay a thing into a bucket, behind those that are there."""
        self._buckets.setdefault(at, []).append(thing)

    def _fall(self, at):
        """Make the least number of a bucket that of the last one gone, and move what parts from it lower."""
        lying = self._buckets.pop(at)
        self.last = number_of(first_of_least(lying))
        for number, name, moves in lying:
            place = parting(number, self.last, self.base)
            # One that still parts at the bucket's own place stays: it is laid back, which is no move.
            if place < at:
                moves += 1
                self.moves += 1
            self._set_down(place, (number, name, moves))
