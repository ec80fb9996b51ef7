"""Promises 2 to 6, and all of them of sequences of calls; promise 1 is tested in test_get.py."""

import random
import unittest

from helper import (ALL_LANES, FIRST, HIGH, MOST, OwnWriter, ask, begin, code, done, end, flat, get, model, open_row,
                    own_ask, plain_count, put, read, read_items, some_items, values_of, wants_of)

MODELS = (6, 4, 52, 9, 64, 2)
LOW = [255, 255, 0, 0]

# Refused whatever the coder does.
ALWAYS = (
    (begin(2, MODELS), [-1]),
    (begin(4, ()), [-1]),
    (begin(4, (2, 2, 2)), [-1]),
    (begin(4, (2, 2) * 17), [-1]),
    (begin(4, (2, 2, 65, 2)), [-1]),
    (begin(4, (2, 2, 64, 10)), [-1]),
    (open_row(3, MODELS, FIRST * 3), [-1]),
    (open_row(1, (1, 2), FIRST), [-1]),
    (open_row(1, MODELS, FIRST * 1001), [-1]),
    (open_row(4, MODELS, FIRST * 3), [-8, 12]),
    (open_row(4, MODELS, FIRST * 2 + LOW + FIRST), [-8, 8]),
    (open_row(4, MODELS, FIRST * 4 + [1]), [-8, 16]),
)
# Refused while it doesn't put, and while it doesn't read.
NOT_PUTTING = (
    (put(), [-4]),
    (put(0, 0, 0), [-4]),
    (put(0), [-4]),
    (end(), [-4]),
)
NOT_READING = (
    (get(), [-4]),
    (get(0, 0), [-4]),
    (get(0), [-4]),
    (get(1, 53), [-4]),
)
NO_SUCH_MODEL = (
    (model(3), [-1]),
    (model(MOST), [-1]),
)
IDLE = ALWAYS + NOT_PUTTING + NOT_READING + (
    (model(0), [-4]),
    (model(3), [-4]),
)
# Refused while it reads MODELS.
READING = ALWAYS + NOT_PUTTING + NO_SUCH_MODEL + (
    (get(0), [-1]),
    (get(0, 0, 1), [-1]),
    (get(0, 0, 3, 0), [-1]),
    (get(0, 0, 0, 3), [-1]),
    (get(0, 0, 1, 0), [-1]),
    (get(0, 0, 1, 53), [-1]),
    (get(0, 0, 2, 2), [-1]),
    (get(0, 0, 2, 3), [-1]),
    (get(1, 52, 1, 52, 1, 52, MOST, 0), [-1]),
)
# Refused while it puts MODELS.
PUTTING = ALWAYS + NOT_READING + NO_SUCH_MODEL + (
    (put(0), [-1]),
    (put(0, 0, 1, 0), [-1]),
    (put(0, 0, 1, 0, 0, 6), [-1]),
    (put(0, 0, 1, 0, 3, 0), [-1]),
    (put(0, 0, 1, 2, 2, 0), [-1]),
    (put(0, 0, 1, 2, 0, 63), [-1]),
    (put(0, 0, 1, 1, 53, 0), [-1]),
    (put(0, 0, 1, 1, 0, 0), [-1]),
    (put(0, 0, 1, 1, 52, 2 ** 52), [-1]),
    (put(0, 0, 1, 2, 1, MOST), [-1]),
    (put(0, 0, 1, 3, 0, 0), [-1]),
    (put(*(0, 0, 1) * 1001), [-7]),
)


class CutAnyhow(unittest.TestCase):
    def test_in_pieces_or_in_one(self):
        chance = random.Random(3)
        for turn in range(60):
            lanes = chance.choice((1, 4, 8, 16))
            items = some_items(chance, MODELS, 120)
            calls = []
            told = []
            total = 0
            place = 0
            while place < len(items):
                size = chance.choice((0, 1, 1, 2, 3, 7, 16, 40))
                part = items[place:place + size]
                place += size
                total += sum(plain_count(item) for item in part)
                calls.append(put(*flat(part)))
                told.append([total])
            with self.subTest(turn=turn):
                found = ask(begin(lanes, MODELS), *calls, end())
                self.assertEqual(found[1:-1], told)
                self.assertEqual(found[-1][2:], code(lanes, MODELS, flat(items)))

    def test_item_by_item(self):
        for lanes in (1, 4, 8, 16):
            items = [(0, 0, j % 6) for j in range(100)] + [(2, 1, j) for j in range(100)]
            calls = [put(*item) for item in items]
            self.assertEqual(ask(begin(lanes, MODELS), *calls, end())[-1][2:], code(lanes, MODELS, flat(items)))


class EverySymbolKeepsAShare(unittest.TestCase):
    def test_it_can_be_put_behind_whatever_was_put(self):
        for slowness in (2, 5, 9):
            for often in (0, 31, 63):
                items = flat([(0, 0, often)] * 900 + [(0, 0, s) for s in range(64)])
                octets = code(16, (64, slowness), items)
                self.assertEqual(read_items(16, (64, slowness), octets, items), (items, True))


class RefusalsChangeNothing(unittest.TestCase):
    def check(self, calls, refused):
        """Each refusal stands behind each of the calls; the others answer as without it."""
        plain = ask(*calls)
        for place in range(len(calls) + 1):
            for call, answer in refused[place]:
                with self.subTest(place=place, call=call[:12]):
                    found = ask(*calls[:place], call, *calls[place:])
                    self.assertEqual(found[place], answer)
                    self.assertEqual(found[:place] + found[place + 1:], plain)

    def test_while_it_puts(self):
        looks = [done(), model(0), model(1), model(2)]
        calls = [begin(4, MODELS), put(0, 0, 5, 1, 31, 12345, 2, 1, 1000), put(0, 0, 5), put(0, 2, 63), *looks, end(),
                 done()]
        self.check(calls, [IDLE] + [PUTTING] * 8 + [IDLE] * 2)

    def test_while_it_reads(self):
        looks = [done(), model(0), model(1), model(2)]
        items = [(0, 0, 5), (1, 31, 12345), (2, 1, 1000), (0, 0, 5), (0, 2, 63), (1, 52, 1), (0, 0, 2)]
        for lanes in ALL_LANES:
            octets = code(lanes, MODELS, flat(items))
            calls = [open_row(lanes, MODELS, octets), get(*wants_of(items[:3])), *looks, get(*wants_of(items[3:])),
                     *looks, get(0, 0), done(), begin(1, MODELS), put(0, 0, 0), end()]
            self.check(calls, [IDLE] + [READING] * 13 + [PUTTING] * 2 + [IDLE])

    def test_behind_a_stop(self):
        calls = [open_row(4, MODELS, HIGH * 4 + [7, 7]), get(0, 0, *(1, 52) * 4), model(0), done(), get(1, 1), get(),
                 model(0), done(), open_row(4, MODELS, HIGH * 4), get(1, 1)]
        self.assertEqual([ask(*calls)[place][:2] for place in (1, 4, 9)], [[0, 2], [0, 0], [0, 1]])
        self.check(calls, [IDLE] + [READING] * 10)

    def test_all_of_them_while_it_reads(self):
        items = [(0, 0, 5), (1, 31, 12345), (2, 1, 1000)] * 9
        refused = [call for call, answer in READING if len(call) < 200]
        octets = code(8, MODELS, flat(items))
        calls = [call for place in range(0, 27, 3) for call in (*refused, get(*wants_of(items[place:place + 3])))]
        found = ask(open_row(8, MODELS, octets), *calls, *refused, done())
        got = [one[2:] for call, one in zip([[3], *calls], found) if call == get(0, 0, 1, 31, 2, 1)]
        self.assertEqual((got, found[-1]), ([[5, 12345, 1000]] * 9, [1]))

    def test_all_of_them_at_once(self):
        items = (0, 0, 5, 1, 31, 12345, 2, 1, 1000)
        refused = [call for call, answer in PUTTING if len(call) < 200]
        calls = [begin(8, MODELS)]
        for turn in range(3):
            calls += [*refused, put(*items)]
        found = ask(*calls, *refused, end())
        self.assertEqual(found[-1][2:], code(8, MODELS, items * 3))

    def test_a_full_row(self):
        calls = [begin(1, MODELS), put(*(0, 0, 3) * 999), put(1, 15, 1), end()]
        many = ((put(1, 16, 0, 1, 1, 0), [-7]), (put(2, 1, 2 ** 52 - 2), [-7]))
        full = ((put(1, 1, 0), [-7]), (put(0, 0, 3), [-7]), (put(2, 1, 0), [-7]))
        self.check(calls, [(), PUTTING[:-1], many, full, ()])


class ReadToItsEnd(unittest.TestCase):
    """Promise 2: what is put to have the bytes again is only what was read of them."""

    def check(self, lanes, models, octets, wants):
        values, told = read(lanes, models, octets, wants)
        self.assertEqual((len(values), told), (len(wants) // 2, 1))
        self.assertEqual(code(lanes, models, items_read(wants, values)), octets)

    def test_bytes_that_were_coded(self):
        chance = random.Random(11)
        for turn in range(60):
            lanes = chance.choice(ALL_LANES)
            items = some_items(chance, MODELS, chance.randrange(180))
            with self.subTest(turn=turn):
                self.check(lanes, MODELS, code(lanes, MODELS, flat(items)), wants_of(items))

    def test_bytes_by_the_writer_of_the_tests(self):
        chance = random.Random(12)
        for turn in range(60):
            writer = OwnWriter(chance.choice(ALL_LANES), MODELS)
            writer.items = some_items(chance, MODELS, chance.randrange(180))
            with self.subTest(turn=turn):
                self.check(writer.lanes, MODELS, writer.octets(), wants_of(writer.items))

    def test_bytes_written_by_hand(self):
        # One bit halves a state: 2^16 * 2^k is k bits of 0, and 16,384 more makes one of them 1.
        for k in range(16):
            self.check(1, (2, 2), list((65536 << k).to_bytes(4, "little")), (1, 1) * k)
        self.check(4, (2, 2), [0, 64, 2, 0] * 4, (0, 0) * 4)
        self.check(4, (2, 2), [0, 64, 2, 0] * 3 + FIRST, (0, 0) * 3)
        self.check(1, (2, 2), [1, 0, 0, 32, 2, 0, 3, 0], (1, 45))

    def test_read_as_other_items_than_were_put(self):
        # A new model of two symbols has the shares of one bit, and thirty bits are twice fifteen.
        bits = [(1, 1, j % 3 % 2) for j in range(16)]
        self.check(16, (2, 2), code(16, (2, 2), flat(bits)), (0, 0) * 16)
        whole = code(8, (2, 2), (1, 30, 123456789) * 50)
        self.check(8, (2, 2), whole, (1, 15) * 100)
        self.check(8, (2, 2), whole, (1, 15, 1, 45) * 25)

    def test_every_state_of_a_stretch(self):
        # Of all these, two are at their end behind one symbol: 131,072 and 147,456, as they're put.
        ends = []
        for start in range(130000, 148000, 100):
            octets = [list(x.to_bytes(4, "little")) for x in range(start, start + 100)]
            found = ask(*[call for some in octets for call in (open_row(1, (2, 2), some), get(0, 0), done())])
            ends += [(some, one[2:]) for some, one, told in zip(octets, found[1::3], found[2::3]) if told == [1]]
        self.assertEqual(ends, [([0, 0, 2, 0], [0]), ([0, 64, 2, 0], [1])])
        for octets, values in ends:
            self.assertEqual(code(1, (2, 2), items_read((0, 0), values)), octets)

    def test_bytes_with_a_fault(self):
        # A row with a fault is at no end, or it is the row of other items.
        chance = random.Random(13)
        at_end = 0
        for turn in range(400):
            lanes = chance.choice((1, 1, 4))
            items = [(1, 1, chance.randrange(2)) for _ in range(chance.randrange(1, 30))]
            octets = code(lanes, MODELS, flat(items))
            place = chance.randrange(len(octets))
            octets[place] ^= 1 << chance.randrange(8)
            if ask(open_row(lanes, MODELS, octets)) != [[0]]:
                continue
            values, told = read(lanes, MODELS, octets, wants_of(items))
            if told == 1:
                at_end += 1
                wants = wants_of(items)[:2 * len(values)]
                self.assertEqual(code(lanes, MODELS, items_read(wants, values)), octets)
                self.assertNotEqual(values, values_of(items))
        self.assertGreater(at_end, 5)


class NoBytesBehindTheEnd(unittest.TestCase):
    def test_items_behind_a_row(self):
        for lanes in ALL_LANES:
            items = [(0, 0, 5), (1, 52, 12345), (2, 1, 1000)] * 20
            octets = code(lanes, MODELS, flat(items))
            found = ask(open_row(lanes, MODELS, octets), get(*wants_of(items * 2)), done(), get(1, 1), get(0, 2),
                        done())
            self.assertEqual(found[1:], [[0, 60] + values_of(items), [1], [0, 0], [0, 0], [1]])

    def test_less_or_more_bytes_are_no_end(self):
        items = [(0, 0, 5), (1, 52, 12345), (2, 1, 1000)] * 20
        for lanes in ALL_LANES:
            octets = code(lanes, MODELS, flat(items))
            for some in (octets[:-2], octets + [0, 0], octets + octets[-2:]):
                values, told = read(lanes, MODELS, some, wants_of(items))
                self.assertEqual((values, told), (values_of(items)[:len(values)], 0))
                self.assertEqual(len(values) == 60, len(some) > len(octets))


def items_read(wants, values):
    return [number for k, value in enumerate(values) for number in (*wants[2 * k:2 * k + 2], value)]


def some_row(chance):
    """Lanes, models, items and their bytes."""
    models = [chance.choice((2, 3, 7, 52, 53, 64)) if k % 2 == 0 else chance.randint(2, 9)
              for k in range(2 * chance.choice((1, 2, 3, 16)))]
    writer = OwnWriter(chance.choice(ALL_LANES), models)
    writer.items = some_items(chance, models, chance.randrange(40))
    return writer.lanes, models, writer.items, writer.octets()


def some_number(chance):
    return chance.choice((0, 1, 2, 3, 4, 8, 15, 16, 30, 31, 45, 52, 53, 64, 65, 255, 2 ** 52 - 2, 2 ** 52, MOST))


def with_a_fault(chance, numbers, numbers_that_may_be):
    """Sometimes one number is another, lacks, or is one too many."""
    numbers = list(numbers)
    place = chance.randrange(len(numbers) + 1)
    turn = chance.randrange(12)
    if turn == 0 and place < len(numbers):
        numbers[place] = numbers_that_may_be(chance)
    if turn == 1 and place < len(numbers):
        del numbers[place:place + chance.choice((1, 2))]
    if turn == 2:
        numbers[place:place] = [numbers_that_may_be(chance) for _ in range(chance.choice((1, 2)))]
    return numbers


def parts(chance, items):
    """Items cut anyhow, with a part of none here and there."""
    found = []
    place = 0
    while place < len(items):
        size = chance.choice((0, 1, 2, 5, 20))
        found.append(items[place:place + size])
        place += size
    return found


def look(chance):
    return chance.choice((done(), model(0), model(chance.randrange(4)), model(some_number(chance))))


def some_calls(chance):
    """Calls that put a row, or read one, with faults here and there and others in between."""
    lanes, models, items, octets = some_row(chance)
    lanes = chance.choice((lanes,) * 12 + (0, 1, 4, 5))
    models = with_a_fault(chance, models, some_number)
    calls = []
    if chance.randrange(2):
        calls.append(begin(lanes, models))
        for part in parts(chance, items):
            calls += [put(*with_a_fault(chance, flat(part), some_number)), look(chance)]
        calls += [end()] * chance.randrange(3)
    else:
        octets = with_a_fault(chance, octets, lambda chance: chance.randrange(256))
        calls.append(open_row(lanes, models, octets))
        for part in parts(chance, items + chance.choice(([], [(0, 0, 0)], [(1, 52, 0)] * 2))):
            calls += [get(*with_a_fault(chance, wants_of(part), some_number)), look(chance)]
    for turn in range(chance.randrange(3)):
        other = chance.choice((put(0, 0, 1), end(), get(0, 0), get(1, 16), done(), model(0)))
        calls.insert(chance.randrange(len(calls) + 1), other)
    return calls


class Sequences(unittest.TestCase):
    def test_as_the_coder_of_the_tests(self):
        chance = random.Random(14)
        seen = {}
        for turn in range(250):
            calls = [call for _ in range(chance.randint(1, 4)) for call in some_calls(chance)]
            found = ask(*calls)
            with self.subTest(turn=turn):
                for call, one, own in zip(calls, found, own_ask(*calls), strict=True):
                    self.assertEqual(one, own, call[:30])
            for call, one in zip(calls, found):
                answer = one[0] if call[0] == 5 else min(one[0], 0)
                seen[call[0], answer] = seen.get((call[0], answer), 0) + 1
        # Each answer of each call but one came at least once; a row that is too long has a test of its own.
        self.assertEqual(sorted(seen), [(0, -1), (0, 0), (1, -4), (1, -1), (1, 0), (2, -4), (2, 0), (3, -8), (3, -1),
                                        (3, 0), (4, -4), (4, -1), (4, 0), (5, 0), (5, 1), (5, 2), (5, 3), (6, -4),
                                        (6, -1), (6, 0)])

    def test_without_the_refused_ones(self):
        chance = random.Random(15)
        for turn in range(150):
            calls = [call for _ in range(3) for call in some_calls(chance)]
            found = ask(*calls)
            kept = [(call, one) for call, one in zip(calls, found) if one[0] >= 0]
            with self.subTest(turn=turn):
                self.assertEqual(ask(*[call for call, one in kept]), [one for call, one in kept])


if __name__ == "__main__":
    unittest.main()
