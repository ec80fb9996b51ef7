import unittest

from helper import FIRST, MOST, OwnModel, ask, begin, code, done, end, flat, get, model, open_row, put, wants_of

MODELS = (2, 2, 64, 9, 5, 4, 52, 3)


def looks(models):
    return [model(k) for k in range(len(models) // 2)]


def own_models(models, symbols):
    """What all models tell when they have seen these symbols (model, symbol)."""
    own = [OwnModel(*models[k:k + 2]) for k in range(0, len(models), 2)]
    for k, s in symbols:
        own[k].see(s)
    return [[0, one.n, *one.edges[:-1]] for one in own]


class AtFirst(unittest.TestCase):
    def test_by_hand(self):
        told = {2: [0, 16384], 3: [0, 10922, 21845], 5: [0, 6553, 13107, 19660, 26214],
                64: [512 * i for i in range(64)]}
        for n, begins in told.items():
            for lanes in (1, 4, 8, 16):
                self.assertEqual(ask(begin(lanes, (n, 9)), model(0))[1], [0, n, *begins])
                self.assertEqual(ask(open_row(lanes, (n, 9), FIRST * lanes), model(0))[1], [0, n, *begins])

    def test_each_model(self):
        own = own_models(MODELS, [])
        self.assertEqual(ask(begin(1, MODELS), *looks(MODELS))[1:], own)
        self.assertEqual(ask(open_row(1, MODELS, FIRST), *looks(MODELS))[1:], own)
        self.assertEqual([one[:2] for one in own], [[0, 2], [0, 64], [0, 5], [0, 52]])

    def test_sixteen_models(self):
        models = tuple(number for k in range(16) for number in (2 + 4 * k, 2 + k % 8))
        self.assertEqual(ask(begin(1, models), *looks(models))[1:], own_models(models, []))


class Within(unittest.TestCase):
    def test_by_hand(self):
        # The symbols 0, 1, 0, 1 in one lane: 20,479, 15,359, 17,535 (rate 3 now), 15,343.
        calls = [call for s in (0, 1, 0, 1) for call in (put(0, 0, s), model(0))]
        found = ask(begin(1, (2, 3)), *calls)
        self.assertEqual([one[3] for one in found[2::2]], [20479, 15359, 17535, 15343])
        # In four lanes all at once, behind the fourth.
        found = ask(begin(4, (2, 3)), *calls)
        self.assertEqual([one[3] for one in found[2::2]], [16384, 16384, 16384, 15343])

    def test_three_symbols_by_hand(self):
        for s, begins in ((0, [0, 16383, 24575]), (1, [0, 8191, 24575]), (2, [0, 8191, 16384])):
            self.assertEqual(ask(begin(1, (3, 9)), put(0, 0, s), model(0))[2], [0, 3, *begins])

    def test_put_and_read_item_by_item(self):
        for lanes in (1, 4, 8, 16):
            items = [(0, j * j % 4, (7 * j) % 2) for j in range(37)]
            own = [own_models(MODELS, [(k, s) for what, k, s in items[:j // lanes * lanes]]) for j in range(38)]
            calls = [call for item in items for call in (put(*item), *looks(MODELS))]
            found = ask(begin(lanes, MODELS), *looks(MODELS), *calls)
            self.assertEqual([found[5 * j + 1:5 * j + 5] for j in range(38)], own)
            octets = code(lanes, MODELS, flat(items))
            calls = [call for item in items for call in (get(*item[:2]), *looks(MODELS))]
            found = ask(open_row(lanes, MODELS, octets), *looks(MODELS), *calls)
            self.assertEqual([found[5 * j + 1:5 * j + 5] for j in range(38)], own)

    def test_bits_count_for_the_group_and_are_not_seen(self):
        fresh, seen = [own_models(MODELS, some) for some in ([], [(0, 1)])]
        items = [(0, 0, 1), (1, 1, 1), (1, 15, 3), (1, 1, 0)]
        octets = code(4, MODELS, flat(items))
        for start, first, last in (
            (begin(4, MODELS), put(*flat(items[:3])), put(*items[3])),
            (open_row(4, MODELS, octets), get(*wants_of(items[:3])), get(*wants_of(items[3:]))),
        ):
            found = ask(start, first, *looks(MODELS), last, *looks(MODELS))
            self.assertEqual((found[2:6], found[7:]), (fresh, seen))

    def test_an_item_that_is_the_rest_of_a_group_and_more(self):
        items = [(0, 0, 1), (1, 52, 9), (0, 0, 0)]
        octets = code(4, MODELS, flat(items))
        fresh, seen = [own_models(MODELS, some) for some in ([], [(0, 1)])]
        for start, first, last in (
            (begin(4, MODELS), put(*items[0]), put(*flat(items[1:]))),
            (open_row(4, MODELS, octets), get(*wants_of(items[:1])), get(*wants_of(items[1:]))),
        ):
            found = ask(start, first, *looks(MODELS), last, *looks(MODELS))
            self.assertEqual((found[2:6], found[7:]), (fresh, seen))

    def test_a_numbers_class_is_seen(self):
        # 9 + 1 is 1010: class 3 of model 2, and a piece of bits.
        octets = code(4, MODELS, (2, 2, 9, 2, 2, 9))
        fresh, seen = [own_models(MODELS, some) for some in ([], [(2, 3), (2, 3)])]
        self.assertEqual(ask(begin(4, MODELS), put(2, 2, 9), *looks(MODELS))[2:], fresh)
        self.assertEqual(ask(begin(4, MODELS), put(2, 2, 9, 2, 2, 9), *looks(MODELS))[2:], seen)
        self.assertEqual(ask(open_row(4, MODELS, octets), get(2, 2), *looks(MODELS))[2:], fresh)
        self.assertEqual(ask(open_row(4, MODELS, octets), get(2, 2, 2, 2), *looks(MODELS))[2:], seen)

    def test_a_group_that_ends_within_an_item(self):
        # In one lane the class is a group of its own; the bits behind it are more groups.
        octets = code(1, MODELS, (2, 3, 2 ** 45, 0, 3, 7))
        for start, call in ((begin(1, MODELS), put(2, 3, 2 ** 45)), (open_row(1, MODELS, octets), get(2, 3))):
            self.assertEqual(ask(start, call, *looks(MODELS))[2:], own_models(MODELS, [(3, 45)]))

    def test_every_symbol_keeps_a_share(self):
        for slowness in (2, 9):
            for often in (0, 31, 63):
                row = put(*(0, 0, often) * 1000)
                begins = ask(begin(1, (64, slowness)), row, model(0))[2][2:] + [32768]
                self.assertEqual(begins[0], 0)
                self.assertTrue(all(low < high for low, high in zip(begins, begins[1:])))


class Refused(unittest.TestCase):
    def test_idle(self):
        self.assertEqual(ask(model(0), model(5), model(MOST)), [[-4]] * 3)
        self.assertEqual(ask(begin(1, (2, 2)), end(), model(0), model(1))[2:], [[-4], [-4]])
        self.assertEqual(ask(open_row(1, (2, 2), [0]), model(0))[1], [-4])

    def test_no_such_model(self):
        for many in (1, 2, 15, 16):
            for start in (begin(4, (2, 2) * many), open_row(4, (2, 2) * many, FIRST * 4)):
                found = ask(start, model(many - 1), model(many), model(many + 1), model(MOST))
                self.assertEqual(found[1:], [[0, 2, 0, 16384], [-1], [-1], [-1]])

    def test_the_models_of_the_last_row(self):
        found = ask(begin(1, (2, 2, 3, 3)), put(0, 0, 0), open_row(1, (3, 3), FIRST), model(0), model(1),
                    begin(1, (2, 2)), model(0), model(1))
        self.assertEqual(found[3:5] + found[6:], [[0, 3, 0, 10922, 21845], [-1], [0, 2, 0, 16384], [-1]])


class ChangesNothing(unittest.TestCase):
    def test_while_it_puts(self):
        items = [(0, 0, 1), (2, 2, 30), (1, 52, 5), (0, 1, 63)] * 10
        for lanes in (1, 4, 8, 16):
            calls = [call for item in items for call in (*looks(MODELS), put(*item), model(1), model(1))]
            found = ask(begin(lanes, MODELS), *calls, end())
            self.assertEqual(found[-1][2:], code(lanes, MODELS, flat(items)))
            self.assertEqual(found[6::7], found[7::7])

    def test_while_it_reads(self):
        items = [(0, 0, 1), (2, 2, 30), (1, 52, 5), (0, 1, 63)] * 10
        for lanes in (1, 4, 8, 16):
            octets = code(lanes, MODELS, flat(items))
            calls = [call for item in items for call in (*looks(MODELS), get(*item[:2]), model(9))]
            found = ask(open_row(lanes, MODELS, octets), *calls, done())
            self.assertEqual(found[5::6], [[0, 1, item[2]] for item in items])
            self.assertEqual(found[-1], [1])


if __name__ == "__main__":
    unittest.main()
