"""A plain reckoning of points 6 to 10, word by word and without the program, and runs of deeds to hold against it."""

MOST_PLACES = 1000
SIGNS = "0123456789abcdef"


def figures(number, base):
    """The figures of a number at places 1, 2, .. (point 3)."""
    if base in (2, 8, 16):
        text = format(number, {2: "b", 8: "o", 16: "x"}[base])
        return [] if number == 0 else [SIGNS.index(sign) for sign in reversed(text)]
    found = []
    while number:
        found.append(number % base)
        number //= base
    return found


def places(one, other, base):
    """The greatest place at which two numbers' figures differ, or 0 (point 4)."""
    a, b = figures(one, base), figures(other, base)
    many = max(len(a), len(b))
    a += [0] * (many - len(a))
    b += [0] * (many - len(b))
    for place in range(many, 0, -1):
        if a[place - 1] != b[place - 1]:
            return place
    return 0


class Plain:
    """Things as lists [bucket, number, name, moves], in the order in which they were laid down, the latest behind."""

    def __init__(self, base):
        self.base = base
        self.last = 0
        self.moves = 0
        self.laid = []

    def put(self, number, name):
        self.laid.append([places(number, self.last, self.base), number, name, 0])

    def take(self):
        lowest = min(row[0] for row in self.laid)
        if lowest != 0:
            self.last = min(row[1] for row in self.laid if row[0] == lowest)
            looked_at = [row for row in self.laid if row[0] == lowest]
            for row in looked_at:
                place = places(row[1], self.last, self.base)
                if place < lowest:
                    self.laid = [other for other in self.laid if other is not row]
                    self.laid.append([place, row[1], row[2], row[3] + 1])
                    self.moves += 1
        gone = [row for row in self.laid if row[0] == 0][0]
        self.laid = [row for row in self.laid if row is not gone]
        return tuple(gone[1:])

    def least(self):
        number = min(row[1] for row in self.laid)
        return (number, [row[2] for row in self.laid if row[1] == number][0])

    def rows(self):
        return [tuple(row) for bucket in range(MOST_PLACES) for row in self.laid if row[0] == bucket]

    def seen(self):
        return (self.rows(), self.last, len(self.laid), self.moves)


def seen(store):
    """All that can be read of a store."""
    return (store.rows(), store.last, store.many, store.moves)


class Numbers:
    """Whole numbers that look like chance and are the same in every run and on every Python."""

    def __init__(self, seed):
        self.state = seed * 2654435761 + 12345

    def below(self, limit):
        drawn = 0
        for _ in range(1 + limit.bit_length() // 24):
            self.state = (self.state * 6364136223846793005 + 1442695040888963407) % 2 ** 64
            drawn = drawn * 2 ** 24 + (self.state >> 40)
        return drawn % limit
