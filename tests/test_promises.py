"""Promises 3, 5 and 6 of the calls begin, put, end and open."""

import random
import unittest

from foretoldbits.coder import Coder
from helper import FIRST, MOST, ask, begin, code, end, flat, open_row, plain_count, put, read_items, some_items

MODELS = (6, 4, 52, 9, 64, 2)
LOW = [255, 255, 0, 0]

# Refused whatever the coder does.
ALWAYS = (
    (begin(2, MODELS), [-1]),
    (begin(4, ()), [-1]),
    (begin(4, (2, 2, 2)), [-1]),
    (begin(4, (2, 2) * 17), [-1]),
    (begin(4, (2, 2, 65, 2)), [-1]),
    (begin(4, (2, 2, 64, 10)), [-1]),
    (open_row(3, MODELS, FIRST * 3), [-1]),
    (open_row(1, (1, 2), FIRST), [-1]),
    (open_row(1, MODELS, FIRST * 1001), [-1]),
    (open_row(4, MODELS, FIRST * 3), [-8, 12]),
    (open_row(4, MODELS, FIRST * 2 + LOW + FIRST), [-8, 8]),
    (open_row(4, MODELS, FIRST * 4 + [1]), [-8, 16]),
)
# Refused while it doesn't put.
NOT_PUTTING = ALWAYS + (
    (put(), [-4]),
    (put(0, 0, 0), [-4]),
    (put(0), [-4]),
    (end(), [-4]),
)
# Refused while it puts MODELS.
PUTTING = ALWAYS + (
    (put(0), [-1]),
    (put(0, 0, 1, 0), [-1]),
    (put(0, 0, 1, 0, 0, 6), [-1]),
    (put(0, 0, 1, 0, 3, 0), [-1]),
    (put(0, 0, 1, 2, 2, 0), [-1]),
    (put(0, 0, 1, 2, 0, 63), [-1]),
    (put(0, 0, 1, 1, 53, 0), [-1]),
    (put(0, 0, 1, 1, 0, 0), [-1]),
    (put(0, 0, 1, 1, 52, 2 ** 52), [-1]),
    (put(0, 0, 1, 2, 1, MOST), [-1]),
    (put(0, 0, 1, 3, 0, 0), [-1]),
    (put(*(0, 0, 1) * 1001), [-7]),
)


class CutAnyhow(unittest.TestCase):
    def test_in_pieces_or_in_one(self):
        chance = random.Random(3)
        for turn in range(60):
            lanes = chance.choice((1, 4, 8, 16))
            items = some_items(chance, MODELS, 120)
            calls = []
            told = []
            total = 0
            place = 0
            while place < len(items):
                size = chance.choice((0, 1, 1, 2, 3, 7, 16, 40))
                part = items[place:place + size]
                place += size
                total += sum(plain_count(item) for item in part)
                calls.append(put(*flat(part)))
                told.append([total])
            with self.subTest(turn=turn):
                found = ask(begin(lanes, MODELS), *calls, end())
                self.assertEqual(found[1:-1], told)
                self.assertEqual(found[-1][2:], code(lanes, MODELS, flat(items)))

    def test_item_by_item(self):
        for lanes in (1, 4, 8, 16):
            items = [(0, 0, j % 6) for j in range(100)] + [(2, 1, j) for j in range(100)]
            calls = [put(*item) for item in items]
            self.assertEqual(ask(begin(lanes, MODELS), *calls, end())[-1][2:], code(lanes, MODELS, flat(items)))


class EverySymbolKeepsAShare(unittest.TestCase):
    def test_it_can_be_put_behind_whatever_was_put(self):
        for slowness in (2, 5, 9):
            for often in (0, 31, 63):
                items = flat([(0, 0, often)] * 900 + [(0, 0, s) for s in range(64)])
                octets = code(16, (64, slowness), items)
                self.assertEqual(read_items(16, (64, slowness), octets, items), (items, True))


class RefusalsChangeNothing(unittest.TestCase):
    def check(self, calls, refused):
        """Each refusal stands behind each of the calls; the others answer as without it."""
        plain = ask(*calls)
        for place in range(len(calls) + 1):
            for call, answer in refused[place]:
                with self.subTest(place=place, call=call[:12]):
                    found = ask(*calls[:place], call, *calls[place:])
                    self.assertEqual(found[place], answer)
                    self.assertEqual(found[:place] + found[place + 1:], plain)

    def test_while_it_puts(self):
        calls = [begin(4, MODELS), put(0, 0, 5, 1, 31, 12345, 2, 1, 1000), put(0, 0, 5), put(0, 2, 63), end()]
        self.check(calls, [NOT_PUTTING, PUTTING, PUTTING, PUTTING, PUTTING, NOT_PUTTING])

    def test_while_it_reads(self):
        calls = [open_row(4, MODELS, FIRST * 4), put(0, 0, 0), end(), begin(1, MODELS), put(0, 0, 0), end()]
        self.check(calls, [NOT_PUTTING] * 4 + [PUTTING] * 2 + [NOT_PUTTING])

    def test_what_is_read_stays(self):
        coder = Coder()
        coder.open_row(4, list(MODELS), [7, 7, 7, 7] * 4 + [1, 2])
        refused = [coder.begin(2, [2, 2]), coder.put([0, 0, 0]), coder.end(), coder.open_row(2, [2, 2], FIRST * 2),
                   coder.open_row(1, [2, 2], [0, 0, 0]), coder.open_row(1, [2, 2], LOW)]
        self.assertEqual(refused, [[-1], [-4], [-4], [-1], [-8, 3], [-8, 0]])
        self.assertEqual((coder.reader.states, coder.reader.words), ([0x07070707] * 4, [0x0201]))
        self.assertEqual([model.symbols for model in coder.reader.row.models], [6, 52, 64])

    def test_all_of_them_at_once(self):
        items = (0, 0, 5, 1, 31, 12345, 2, 1, 1000)
        refused = [call for call, answer in PUTTING if len(call) < 200]
        calls = [begin(8, MODELS)]
        for turn in range(3):
            calls += [*refused, put(*items)]
        found = ask(*calls, *refused, end())
        self.assertEqual(found[-1][2:], code(8, MODELS, items * 3))

    def test_a_full_row(self):
        calls = [begin(1, MODELS), put(*(0, 0, 3) * 999), put(1, 15, 1), end()]
        many = ((put(1, 16, 0, 1, 1, 0), [-7]), (put(2, 1, 2 ** 52 - 2), [-7]))
        full = ((put(1, 1, 0), [-7]), (put(0, 0, 3), [-7]), (put(2, 1, 0), [-7]))
        self.check(calls, [(), PUTTING[:-1], many, full, ()])


if __name__ == "__main__":
    unittest.main()
