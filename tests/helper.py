"""What the tests share: calls put together, answers taken apart, and a reader of its own.

The reader goes by the words of the document alone (its part "Out") and uses
nothing of the package: what it reads out of coded bytes checks these bytes.
"""

import bisect

from foretoldbits.coder import answers

MOST = 2 ** 53 - 1
FIRST = [0, 0, 1, 0]


def begin(lanes, models):
    return [0, lanes, len(models), *models]


def put(*numbers):
    return [1, len(numbers), *numbers]


def end():
    return [2]


def open_row(lanes, models, octets):
    return [3, lanes, len(models), *models, len(octets), *octets]


def apart(answered):
    """The answers as lists, one a call, without their counts."""
    found = []
    place = 0
    while place < len(answered):
        size = answered[place]
        found.append(answered[place + 1:place + 1 + size])
        place += 1 + size
    if place != len(answered):
        raise AssertionError("an answer is shorter than told")
    return found


def ask(*calls):
    """The answers to these calls on one new coder."""
    return apart(answers([number for call in calls for number in call]))


def code(lanes, models, items):
    """The bytes of a row that is put in one call."""
    begun, counted, ended = ask(begin(lanes, models), put(*items), end())
    if begun != [0] or len(counted) != 1 or counted[0] < 0 or ended[0] != 0 or ended[1] != len(ended) - 2:
        raise AssertionError(f"not coded: {begun} {counted} {ended[:2]}")
    return ended[2:]


class OwnModel:
    def __init__(self, n, slowness):
        self.n = n
        self.slowness = slowness
        self.seen = 0
        self.edges = [32768 * i // n for i in range(n)] + [32768]

    def see(self, s):
        highest = 0
        while 2 ** (highest + 1) <= self.seen + 2:
            highest += 1
        rate = min(1 + highest, self.slowness)
        for i in range(1, self.n):
            t = i if i <= s else 32768 - (self.n - i)
            self.edges[i] = (self.edges[i] * (2 ** rate - 1) + t) // 2 ** rate
        self.seen = min(self.seen + 1, 65535)


class OwnReader:
    def __init__(self, lanes, models, octets):
        self.lanes = lanes
        self.models = [OwnModel(*models[k:k + 2]) for k in range(0, len(models), 2)]
        self.states = [self.number(octets[4 * k:4 * k + 4]) for k in range(lanes)]
        self.words = [self.number(octets[k:k + 2]) for k in range(4 * lanes, len(octets), 2)]
        self.j = 0
        self.group = []

    def number(self, octets):
        return int.from_bytes(bytes(octets), "little")

    def plain_item(self, edges):
        x = self.states[self.j % self.lanes]
        rest = x % 32768
        found = bisect.bisect_right(edges, rest) - 1
        x = (edges[found + 1] - edges[found]) * (x // 32768) + rest - edges[found]
        if x < 65536:
            x = x * 65536 + self.words.pop(0)
        self.states[self.j % self.lanes] = x
        return found

    def go_on(self):
        self.j += 1
        if self.j % self.lanes == 0:
            for k, s in self.group:
                self.models[k].see(s)
            self.group = []

    def symbol(self, k):
        s = self.plain_item(self.models[k].edges)
        self.group.append((k, s))
        self.go_on()
        return s

    def bits(self, count):
        value = 0
        done = 0
        while done < count:
            size = min(15, count - done)
            value += self.plain_item(range(0, 32769, 2 ** (15 - size))) * 2 ** done
            self.go_on()
            done += size
        return value

    def value(self, what, of):
        if what == 0:
            return self.symbol(of)
        if what == 1:
            return self.bits(of)
        c = self.symbol(of)
        return 2 ** c + self.bits(c) - 1

    def at_end(self):
        return self.words == [] and all(x == 65536 for x in self.states)


def read_items(lanes, models, octets, items):
    """The items that the bytes tell where these were put, and whether the row is at its end then."""
    reader = OwnReader(lanes, models, octets)
    found = []
    for k in range(0, len(items), 3):
        what, of = items[k:k + 2]
        found += [what, of, reader.value(what, of)]
    return found, reader.at_end()


def some_items(chance, models, many):
    """Items of all kinds with their numbers of plain items, by a chance that is told."""
    items = []
    for _ in range(many):
        what = chance.choice((0, 0, 1, 2))
        k = chance.randrange(len(models) // 2)
        n = models[2 * k]
        if what == 1:
            of = chance.randint(1, 52)
            items.append((1, of, chance.randrange(2 ** of)))
        elif what == 2 and n <= 52:
            c = chance.randrange(n)
            items.append((2, k, 2 ** c - 1 + chance.randrange(2 ** c)))
        else:
            items.append((0, k, min(chance.randrange(n), chance.randrange(n))))
    return items


def plain_count(item):
    """How many plain items an item is."""
    what, of, value = item
    if what == 0:
        return 1
    bits = of if what == 1 else (value + 1).bit_length() - 1
    return (bits + 14) // 15 + (1 if what == 2 else 0)


def flat(items):
    return [number for item in items for number in item]
