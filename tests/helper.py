"""What the tests share: calls put together, answers taken apart, and a coder of its own.

That coder goes by the words of the document alone and uses nothing of the
package: its reader checks coded bytes, and all of it what calls answer.
"""

import bisect
import copy
import random

from foretoldbits.coder import answers

MOST = 2 ** 53 - 1
FIRST = [0, 0, 1, 0]
HIGH = [255, 255, 255, 255]
ALL_LANES = (1, 4, 8, 16)


def begin(lanes, models):
    return [0, lanes, len(models), *models]


def put(*numbers):
    return [1, len(numbers), *numbers]


def end():
    return [2]


def open_row(lanes, models, octets):
    return [3, lanes, len(models), *models, len(octets), *octets]


def get(*numbers):
    return [4, len(numbers), *numbers]


def done():
    return [5]


def model(k):
    return [6, k]


def apart(answered):
    """The answers as lists, one a call, without their counts."""
    found = []
    place = 0
    while place < len(answered):
        size = answered[place]
        found.append(answered[place + 1:place + 1 + size])
        place += 1 + size
    if place != len(answered):
        raise AssertionError("an answer is shorter than told")
    return found


def ask(*calls):
    """The answers to these calls on one new coder."""
    return apart(answers([number for call in calls for number in call]))


def code(lanes, models, items):
    """The bytes of a row that is put in one call."""
    begun, counted, ended = ask(begin(lanes, models), put(*items), end())
    if begun != [0] or len(counted) != 1 or counted[0] < 0 or ended[0] != 0 or ended[1] != len(ended) - 2:
        raise AssertionError(f"not coded: {begun} {counted} {ended[:2]}")
    return ended[2:]


def read(lanes, models, octets, wants):
    """The values that one get reads of these bytes, and what done says then."""
    opened, got, told = ask(open_row(lanes, models, octets), get(*wants), done())
    if opened != [0] or got[0] != 0 or got[1] != len(got) - 2 or len(told) != 1:
        raise AssertionError(f"not read: {opened} {got[:2]} {told}")
    return got[2:], told[0]


class Lacks(Exception):
    """A word is wanted that isn't there."""


class OwnModel:
    def __init__(self, n, slowness):
        self.n = n
        self.slowness = slowness
        self.seen = 0
        self.edges = [32768 * i // n for i in range(n)] + [32768]

    def see(self, s):
        highest = 0
        while 2 ** (highest + 1) <= self.seen + 2:
            highest += 1
        rate = min(1 + highest, self.slowness)
        for i in range(1, self.n):
            t = i if i <= s else 32768 - (self.n - i)
            self.edges[i] = (self.edges[i] * (2 ** rate - 1) + t) // 2 ** rate
        self.seen = min(self.seen + 1, 65535)


class OwnReader:
    def __init__(self, lanes, models, octets):
        self.lanes = lanes
        self.models = [OwnModel(*models[k:k + 2]) for k in range(0, len(models), 2)]
        self.states = [self.number(octets[4 * k:4 * k + 4]) for k in range(lanes)]
        self.words = [self.number(octets[k:k + 2]) for k in range(4 * lanes, len(octets), 2)]
        self.j = 0
        self.group = []
        self.stopped = False

    def number(self, octets):
        return int.from_bytes(bytes(octets), "little")

    def plain_item(self, edges):
        x = self.states[self.j % self.lanes]
        rest = x % 32768
        found = bisect.bisect_right(edges, rest) - 1
        x = (edges[found + 1] - edges[found]) * (x // 32768) + rest - edges[found]
        if x < 65536:
            if not self.words:
                raise Lacks
            x = x * 65536 + self.words.pop(0)
        self.states[self.j % self.lanes] = x
        return found

    def go_on(self):
        self.j += 1
        if self.j % self.lanes == 0:
            for k, s in self.group:
                self.models[k].see(s)
            self.group = []

    def symbol(self, k):
        s = self.plain_item(self.models[k].edges)
        self.group.append((k, s))
        self.go_on()
        return s

    def bits(self, count):
        value = 0
        done = 0
        while done < count:
            size = min(15, count - done)
            value += self.plain_item(range(0, 32769, 2 ** (15 - size))) * 2 ** done
            self.go_on()
            done += size
        return value

    def value(self, what, of):
        if what == 0:
            return self.symbol(of)
        if what == 1:
            return self.bits(of)
        c = self.symbol(of)
        return 2 ** c + self.bits(c) - 1

    def values(self, wants):
        """The values of these items, up to where a word lacks."""
        found = []
        for k in range(0, len(wants), 2):
            if self.stopped:
                break
            before = copy.deepcopy(self.__dict__)
            try:
                found.append(self.value(*wants[k:k + 2]))
            except Lacks:
                self.__dict__ = before
                self.stopped = True
        return found

    def at_end(self):
        return self.words == [] and all(x == 65536 for x in self.states)


class OwnWriter:
    """It keeps the items that were put, and works all out of them whenever it's asked."""

    def __init__(self, lanes, models):
        self.lanes = lanes
        self.numbers = models
        self.items = []

    def plain_items(self):
        found = []
        for what, of, value in self.items:
            bits = of
            if what == 0:
                found.append((of, value))
                continue
            if what == 2:
                value += 1
                bits = len(bin(value)) - 3
                found.append((of, bits))
            for low in range(0, bits, 15):
                size = min(15, bits - low)
                found.append((None, size, value // 2 ** low % 2 ** size))
        return found

    def shares(self):
        """The share of each plain item, and the models as they are then."""
        models = [OwnModel(*self.numbers[k:k + 2]) for k in range(0, len(self.numbers), 2)]
        found = []
        plain = self.plain_items()
        for start in range(0, len(plain), self.lanes):
            group = plain[start:start + self.lanes]
            for item in group:
                if item[0] is None:
                    places = 2 ** (15 - item[1])
                    found.append((item[2] * places, places))
                else:
                    edges = models[item[0]].edges
                    found.append((edges[item[1]], edges[item[1] + 1] - edges[item[1]]))
            if len(group) == self.lanes:
                for item in group:
                    if item[0] is not None:
                        models[item[0]].see(item[1])
        return found, models

    def octets(self):
        states = [65536] * self.lanes
        words = b""
        shares = self.shares()[0]
        while shares:
            b, s = shares.pop()
            x = states[len(shares) % self.lanes]
            if x >= s * 131072:
                words = (x % 65536).to_bytes(2, "little") + words
                x //= 65536
            states[len(shares) % self.lanes] = x // s * 32768 + x % s + b
        return [*b"".join(x.to_bytes(4, "little") for x in states), *words]


class OwnCoder:
    """All seven calls, each as a method that takes the rows of the call and gives back its answer."""

    def __init__(self):
        self.does = None

    def wrong_row(self, lanes, models):
        return (lanes not in (1, 4, 8, 16) or len(models) not in range(2, 33, 2)
                or any(n not in range(2, 65) for n in models[::2])
                or any(slowness not in range(2, 10) for slowness in models[1::2]))

    def wrong_item(self, what, of, value):
        """Whether there is no such item; where the value is None, whatever its value."""
        ns = self.ns
        if what not in (0, 1, 2):
            return True
        if what == 1:
            return of not in range(1, 53) or value is not None and value >= 2 ** of
        if of >= len(ns) or what == 2 and ns[of] > 52:
            return True
        return value is not None and (value >= ns[of] if what == 0 else value + 1 >= 2 ** ns[of])

    def begin(self, lanes, models):
        if self.wrong_row(lanes, models):
            return [-1]
        self.does, self.ns = OwnWriter(lanes, models), models[::2]
        return [0]

    def put(self, numbers):
        if not isinstance(self.does, OwnWriter):
            return [-4]
        items = [tuple(numbers[k:k + 3]) for k in range(0, len(numbers), 3)]
        if len(numbers) % 3 or any(self.wrong_item(*item) for item in items):
            return [-1]
        many = sum(plain_count(item) for item in self.does.items + items)
        if many > 1000:
            return [-7]
        self.does.items += items
        return [many]

    def end(self):
        if not isinstance(self.does, OwnWriter):
            return [-4]
        octets = self.does.octets()
        self.does = None
        return [0, len(octets), *octets]

    def open_row(self, lanes, models, octets):
        if self.wrong_row(lanes, models) or len(octets) > 4000:
            return [-1]
        if len(octets) < 4 * lanes:
            return [-8, len(octets)]
        for k in range(0, 4 * lanes, 4):
            if octets[k + 2] == octets[k + 3] == 0:
                return [-8, k]
        if len(octets) % 2:
            return [-8, len(octets) - 1]
        self.does, self.ns = OwnReader(lanes, models, octets), models[::2]
        return [0]

    def get(self, wants):
        if not isinstance(self.does, OwnReader):
            return [-4]
        if len(wants) % 2 or any(self.wrong_item(*wants[k:k + 2], None) for k in range(0, len(wants), 2)):
            return [-1]
        values = self.does.values(wants)
        return [0, len(values), *values]

    def done(self):
        if self.does is None:
            return [3]
        if isinstance(self.does, OwnWriter):
            return [2]
        return [1] if self.does.at_end() else [0]

    def model(self, k):
        if self.does is None:
            return [-4]
        if k >= len(self.ns):
            return [-1]
        models = self.does.shares()[1] if isinstance(self.does, OwnWriter) else self.does.models
        return [0, self.ns[k], *models[k].edges[:-1]]


def own_ask(*calls):
    """What these calls answer by the coder of the tests."""
    coder = OwnCoder()
    found = []
    for call in calls:
        rest = list(call[1:])
        single = rest[:1]
        if call[0] == 0:
            found.append(coder.begin(*single, rest[2:]))
        elif call[0] == 1:
            found.append(coder.put(rest[1:]))
        elif call[0] == 2:
            found.append(coder.end())
        elif call[0] == 3:
            found.append(coder.open_row(*single, rest[2:2 + rest[1]], rest[3 + rest[1]:]))
        elif call[0] == 4:
            found.append(coder.get(rest[1:]))
        else:
            found.append(coder.done() if call[0] == 5 else coder.model(*single))
    return found


def read_items(lanes, models, octets, items):
    """The items that the bytes tell where these were put, and whether the row is at its end then."""
    reader = OwnReader(lanes, models, octets)
    found = []
    for k in range(0, len(items), 3):
        what, of = items[k:k + 2]
        found += [what, of, reader.value(what, of)]
    return found, reader.at_end()


def some_items(chance, models, many):
    """Items of all kinds with their numbers of plain items, by a chance that is told."""
    items = []
    for _ in range(many):
        what = chance.choice((0, 0, 1, 2))
        k = chance.randrange(len(models) // 2)
        n = models[2 * k]
        if what == 1:
            of = chance.randint(1, 52)
            items.append((1, of, chance.randrange(2 ** of)))
        elif what == 2 and n <= 52:
            c = chance.randrange(n)
            items.append((2, k, 2 ** c - 1 + chance.randrange(2 ** c)))
        else:
            items.append((0, k, min(chance.randrange(n), chance.randrange(n))))
    return items


def plain_count(item):
    """How many plain items an item is."""
    what, of, value = item
    if what == 0:
        return 1
    bits = of if what == 1 else (value + 1).bit_length() - 1
    return (bits + 14) // 15 + (1 if what == 2 else 0)


def flat(items):
    return [number for item in items for number in item]


def wants_of(items):
    """What a get asks for to read these items, which are tuples."""
    return [number for item in items for number in item[:2]]


def values_of(items):
    return [item[2] for item in items]


def threes(items):
    """Items as tuples, out of a list of their numbers."""
    return [tuple(items[k:k + 3]) for k in range(0, len(items), 3)]


class Rows:
    """Tests of many rows, for a test case that has a check of one row: its lanes, models and items."""

    def test_nothing(self):
        for lanes in ALL_LANES:
            self.check(lanes, (2, 2), ())

    def test_bits_of_every_size(self):
        for lanes in ALL_LANES:
            for bits in range(1, 53):
                with self.subTest(lanes=lanes, bits=bits):
                    values = (0, 1, 2 ** bits - 1, 2 ** (bits - 1), 0x5A5A5A5A5A5A5 % 2 ** bits)
                    self.check(lanes, (2, 2), flat([(1, bits, value) for value in values]))

    def test_bits_of_several_sizes_in_one_row(self):
        sizes = (1, 15, 16, 30, 31, 45, 52, 14, 29, 46)
        for lanes in ALL_LANES:
            items = [(1, bits, 0x9E3779B97F4A7 * turn % 2 ** bits) for turn in range(30) for bits in sizes]
            self.check(lanes, (2, 2), flat(items))

    def test_numbers_of_every_class(self):
        for lanes in ALL_LANES:
            items = []
            for c in range(52):
                items += [2, 0, 2 ** c - 1, 2, 0, 2 ** (c + 1) - 2]
            self.check(lanes, (52, 6), items)

    def test_the_models_of_numbers(self):
        for n in range(2, 53):
            for lanes in (1, 16):
                self.check(lanes, (n, 3), (2, 0, 2 ** n - 2, 2, 0, 0, 2, 0, 2 ** (n - 1) - 1, 0, 0, n - 1))

    def test_every_symbol_of_every_n(self):
        for n in range(2, 65):
            with self.subTest(n=n):
                items = flat([(0, 0, s * 7 % n) for s in range(2 * n)])
                self.check(1, (n, 4), items)
                self.check(16, (n, 4), items)

    def test_models_that_adapt_over_many_groups(self):
        chance = random.Random(5)
        for slowness in range(2, 10):
            for lanes in ALL_LANES:
                with self.subTest(slowness=slowness, lanes=lanes):
                    low = flat([(0, 0, min(chance.randrange(6), chance.randrange(6))) for _ in range(500)])
                    high = flat([(0, 0, 5 - min(chance.randrange(6), chance.randrange(6))) for _ in range(500)])
                    self.check(lanes, (6, slowness), low + high)

    def test_one_symbol_again_and_again_then_another(self):
        for slowness in range(2, 10):
            for n in (2, 64):
                for often, rare in ((0, n - 1), (n - 1, 0)):
                    with self.subTest(slowness=slowness, n=n, often=often):
                        self.check(1, (n, slowness), (0, 0, often) * 990 + (0, 0, rare) * 10)

    def test_sixteen_models(self):
        models = tuple(number for k in range(16) for number in (2 + 4 * k, 2 + k % 8))
        for lanes in ALL_LANES:
            self.check(lanes, models, flat([(0, j % 16, (j * j + 1) % (2 + 4 * (j % 16))) for j in range(900)]))

    def test_a_thousand_plain_items(self):
        for lanes in ALL_LANES:
            self.check(lanes, (2, 2), (1, 52, 2 ** 52 - 1) * 250)
            self.check(lanes, (2, 9), (0, 0, 1) * 1000)

    def test_items_by_chance(self):
        chance = random.Random(1)
        for turn in range(120):
            lanes = chance.choice(ALL_LANES)
            models = [chance.randint(2, 64) if k % 2 == 0 else chance.randint(2, 9)
                      for k in range(2 * chance.randint(1, 16))]
            items = some_items(chance, models, chance.randint(0, 190))
            self.assertLessEqual(sum(plain_count(item) for item in items), 1000)
            with self.subTest(turn=turn):
                self.check(lanes, models, flat(items))
