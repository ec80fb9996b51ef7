import random
import unittest

from helper import (ALL_LANES, FIRST, HIGH, MOST, OwnReader, Rows, ask, begin, code, done, end, flat, get, model,
                    open_row, put, read, some_items, threes, values_of, wants_of)


def asked(lanes, models, octets, *calls):
    """The answers to these calls behind an open."""
    opened, *found = ask(open_row(lanes, models, octets), *calls)
    if opened != [0]:
        raise AssertionError(f"not opened: {opened}")
    return found


def told(values):
    return [0, len(values), *values]


class ByHand(unittest.TestCase):
    """Rows worked out by hand from the document; how they are put is worked out in test_end.py."""

    def test_one_symbol(self):
        # 147,456 is 4 * 32,768 + 16,384: symbol 1, and 16,384 * 4 + 0 is left.
        self.assertEqual(read(1, (2, 2), [0, 64, 2, 0], (0, 0)), ([1], 1))
        self.assertEqual(read(1, (2, 2), [0, 0, 2, 0], (0, 0)), ([0], 1))

    def test_two_symbols(self):
        # 368,634 is 11 * 32,768 + 8,186: symbol 0, and 16,384 * 11 + 8,186 = 188,410 is left. B(1) is 20,479 then:
        # 5 * 32,768 + 24,570 is symbol 1, and 12,289 * 5 + 24,570 - 20,479 = 65,536.
        self.assertEqual(read(1, (2, 2), [250, 159, 5, 0], (0, 0, 0, 0)), ([0, 1], 1))

    def test_bits(self):
        self.assertEqual(read(1, (2, 2), [0x34, 0x12, 0, 128], (1, 15)), ([0x1234], 1))
        self.assertEqual(read(1, (2, 2), [0, 64, 2, 0], (1, 1)), ([1], 1))
        # 65,536 + 32,767 leaves 2: with the word 16,384 that's 147,456, one bit more.
        self.assertEqual(read(1, (2, 2), [255, 127, 1, 0, 0, 64], (1, 16)), ([65535], 1))
        value = 1 + 2 * 2 ** 15 + 3 * 2 ** 30
        self.assertEqual(read(1, (2, 2), [1, 0, 0, 32, 2, 0, 3, 0], (1, 45)), ([value], 1))
        octets = [1, 0, 0, 128, 2, 0, 0, 128, 3, 0, 0, 128, 0, 4, 128, 0]
        self.assertEqual(read(4, (2, 2), octets, (1, 52)), ([value + 4 * 2 ** 45], 1))

    def test_numbers(self):
        # 846,498 is 25 * 32,768 + 27,298: class 2, and 10,923 * 25 + 5,453 = 278,528 is left: the two bits 10.
        self.assertEqual(read(1, (3, 2), [162, 234, 12, 0], (2, 0)), ([5], 1))
        self.assertEqual(read(4, (3, 2), [254, 255, 2, 0, 0, 64, 4, 0] + FIRST * 2, (2, 0)), ([5], 1))
        self.assertEqual(read(1, (3, 2), [4, 0, 3, 0], (2, 0)), ([0], 1))

    def test_a_group_and_one_item_more(self):
        rest = [0, 64, 2, 0, 0, 0, 2, 0, 0, 64, 2, 0]
        self.assertEqual(read(4, (2, 3), [0, 0, 2, 0] + rest, (0, 0) * 4), ([0, 1, 0, 1], 1))
        self.assertEqual(read(4, (2, 3), [188, 175, 3, 0] + rest, (0, 0) * 5), ([0, 1, 0, 1, 1], 1))

    def test_words_of_eight_lanes(self):
        octets = [number for j in range(8) for number in (j, 0, 0, 64)] + [number for j in range(8, 16)
                                                                           for number in (j, 0)]
        self.assertEqual(read(8, (2, 2), octets, (1, 15) * 16), (list(range(16)), 1))


class ReadBack(Rows, unittest.TestCase):
    def check(self, lanes, models, items):
        items = threes(items)
        octets = code(lanes, models, flat(items))
        found = asked(lanes, models, octets, get(*wants_of(items)), done())
        self.assertEqual(found, [told(values_of(items)), [1]])

    def test_on_the_coder_that_put(self):
        items = [(0, 0, 3), (1, 31, 77), (2, 0, 9), (0, 1, 40)] * 20
        octets = code(8, (5, 5, 64, 2), flat(items))
        found = ask(begin(8, (5, 5, 64, 2)), put(*flat(items)), end(), open_row(8, (5, 5, 64, 2), octets),
                    get(*wants_of(items)), done())
        self.assertEqual(found[2:], [told(octets), [0], told(values_of(items)), [1]])


class NoCodedRow(unittest.TestCase):
    def test_all_ones(self):
        # 15 bits leave 131,071, 15 more 3: with the word 5 that's 6 * 32,768 + 5, and leaves 6: a word lacks.
        self.assertEqual(read(1, (2, 2), HIGH, (1, 15)), ([32767], 0))
        self.assertEqual(read(1, (2, 2), HIGH, (1, 15, 1, 15)), ([32767], 0))
        self.assertEqual(read(1, (2, 2), HIGH + [5, 0], (1, 15) * 3), ([32767, 32767], 0))
        self.assertEqual(read(1, (2, 2), HIGH + [5, 0, 0, 0], (1, 15) * 3), ([32767, 32767, 5], 0))

    def test_symbols_of_all_ones(self):
        # Each leaves s * 131,072 - 1, then s * 65,536 - 1; B(1) is 12,288, then 9,216.
        found = asked(1, (2, 2), HIGH, get(0, 0), model(0), get(0, 0), model(0), done())
        self.assertEqual(found, [[0, 1, 1], [0, 2, 0, 12288], [0, 1, 1], [0, 2, 0, 9216], [0]])

    def test_a_first_state_with_words(self):
        # Bits 0, and 2 is left: with the word 0x1234 that's 4 * 32,768 + 4,660; one bit 0 leaves 70,196.
        self.assertEqual(read(1, (2, 2), FIRST + [0x34, 0x12], (1, 15, 1, 1)), ([0, 0], 0))
        self.assertEqual(read(1, (2, 2), FIRST + [0x34, 0x12], (1, 15, 1, 15)), ([0], 0))

    def test_a_number_over_a_groups_end(self):
        # Class 51 leaves 631 * 131,072 - 1 in the first state; three states have 15 bits each, then 6 bits, 63.
        self.assertEqual(read(4, (52, 2), HIGH * 4, (2, 0)), ([2 ** 52 - 2], 0))

    def test_as_the_reader_of_the_tests(self):
        chance = random.Random(8)
        models = (6, 4, 52, 9, 64, 2)
        for turn in range(80):
            lanes = chance.choice(ALL_LANES)
            octets = [chance.randrange(256) for _ in range(4 * lanes + 2 * chance.randrange(80))]
            for lane in range(lanes):
                octets[4 * lane + 3] |= 1
            wants = wants_of(some_items(chance, models, 90))
            own = OwnReader(lanes, models, octets)
            with self.subTest(turn=turn):
                values = own.values(wants)
                found = asked(lanes, models, octets, get(*wants), done(), model(0), model(1), model(2))
                self.assertEqual(found[:2], [told(values), [int(own.at_end())]])
                self.assertEqual(found[2:], [told(one.edges[:-1]) for one in own.models])

    def test_more_than_a_thousand(self):
        octets = FIRST + [j * j % 256 for j in range(3996)]
        own = OwnReader(1, (2, 9), octets)
        values = [own.symbol(0) for _ in range(5000)]
        found = asked(1, (2, 9), octets, get(*(0, 0) * 2500), get(*(0, 0) * 2500), done())
        self.assertTrue(found == [told(values[:2500]), told(values[2500:]), [0]])


class AWordLacks(unittest.TestCase):
    def test_values_ahead_of_it(self):
        items = [(1, 15, j) for j in range(10)]
        octets = code(1, (2, 2), flat(items))
        # Nine words: each item but the last wants one.
        self.assertEqual(len(octets), 4 + 2 * 9)
        self.assertEqual(asked(1, (2, 2), octets, get(*wants_of(items))), [told(list(range(10)))])
        for words in range(9):
            found = asked(1, (2, 2), octets[:4 + 2 * words], get(*wants_of(items)))
            self.assertEqual(found, [told(list(range(words)))])

    def test_at_a_rows_end(self):
        for lanes in ALL_LANES:
            for wants in ((0, 0), (0, 1), (1, 1), (1, 15), (1, 52), (2, 0)):
                with self.subTest(lanes=lanes, wants=wants):
                    found = asked(lanes, (2, 2, 64, 9), FIRST * lanes, get(*wants), done(), get(), get(*wants * 9))
                    self.assertEqual(found, [[0, 0], [1], [0, 0], [0, 0]])

    def test_in_the_second_plain_item(self):
        # 15 bits would be there, 15 more aren't.
        found = asked(1, (2, 2), HIGH, get(1, 30), done(), model(0))
        self.assertEqual(found, [[0, 0], [0], [0, 2, 0, 16384]])

    def test_in_a_numbers_bits(self):
        # Class 51 leaves 631 * 131,072 - 1 and ends a group; its bits want a word. The model has seen nothing.
        fresh = [32768 * i // 52 for i in range(52)]
        self.assertEqual(asked(1, (52, 2), HIGH, get(2, 0), model(0), done()), [[0, 0], told(fresh), [0]])
        seen = [0] + [(fresh[i] * 3 + i) // 4 for i in range(1, 52)]
        self.assertEqual(asked(1, (52, 2), HIGH, get(0, 0), model(0)), [[0, 1, 51], told(seen)])

    def test_none_is_read_from_then_on(self):
        # One bit wants no word, but stands behind the stop, in this call or in a later one.
        self.assertEqual(asked(1, (2, 2), HIGH, get(1, 1)), [[0, 1, 1]])
        self.assertEqual(asked(1, (2, 2), HIGH, get(1, 30, 1, 1)), [[0, 0]])
        found = asked(1, (2, 2), HIGH, get(1, 30), get(1, 1), get(), get(0, 0), done(), model(0), get(1, 1, 1, 30))
        self.assertEqual(found, [[0, 0], [0, 0], [0, 0], [0, 0], [0], [0, 2, 0, 16384], [0, 0]])
        self.assertEqual(asked(1, (2, 2), HIGH, get(1, 1, 1, 45, 1, 1), get(1, 1)), [[0, 1, 1], [0, 0]])

    def test_none_is_read_in_other_lanes(self):
        # The first state wants a word, the others would not.
        octets = FIRST + HIGH * 3
        found = asked(4, (2, 2), octets, get(1, 1), get(1, 1), get(0, 0), done(), model(0))
        self.assertEqual(found, [[0, 0], [0, 0], [0, 0], [0], [0, 2, 0, 16384]])

    def test_a_stop_is_no_refusal_and_refusals_stay(self):
        wrong = ((0,), (3, 0), (0, 1), (1, 0), (1, 53), (2, 1), (1, 1, 1), (1, 1, 0, 1))
        found = asked(1, (2, 2), HIGH, get(1, 30), *[get(*wants) for wants in wrong], get(1, 1), get(), done())
        self.assertEqual(found, [[0, 0]] + [[-1]] * len(wrong) + [[0, 0], [0, 0], [0]])

    def test_until_open_or_begin(self):
        again = open_row(1, (2, 2), HIGH)
        found = asked(1, (2, 2), HIGH, get(1, 30), again, get(1, 1), get(1, 30), begin(1, (2, 2)), done(), put(0, 0, 1),
                      end(), again, get(1, 1))
        self.assertEqual(found, [[0, 0], [0], [0, 1, 1], [0, 0], [0], [2], [1], [0, 4, 0, 64, 2, 0], [0], [0, 1, 1]])

    def test_an_open_that_is_refused_starts_nothing(self):
        found = asked(1, (2, 2), HIGH, get(1, 30), open_row(1, (2, 2), [0] * 4), open_row(2, (2, 2), HIGH),
                      begin(1, ()), get(1, 1), done())
        self.assertEqual(found, [[0, 0], [-8, 0], [-1], [-1], [0, 0], [0]])

    def test_items_are_read_whole_or_not_at_all(self):
        chance = random.Random(9)
        models = (6, 4, 52, 3)
        looks = [model(0), model(1), done()]
        inner = 0
        for turn in range(25):
            lanes = chance.choice(ALL_LANES)
            items = some_items(chance, models, 40)
            octets = code(lanes, models, flat(items))
            room = (len(octets) - 4 * lanes) // 2
            octets = octets[:len(octets) - 2 * chance.randint(1, max(1, min(room, 40)))]
            calls = [call for item in items for call in (*looks, get(*item[:2]))]
            found = asked(lanes, models, octets, *calls, *looks)
            got = found[3::4]
            many = [len(one) for one in got].index(2)
            with self.subTest(turn=turn, many=many):
                self.assertEqual(got[:many], [[0, 1, item[2]] for item in items[:many]])
                self.assertEqual(got[many:], [[0, 0]] * (len(items) - many))
                before = found[4 * many:4 * many + 3]
                for place in range(many, len(items) + 1):
                    self.assertEqual(found[4 * place:4 * place + 3], before)
                inner += items[many][0] == 2 and read_of_it(lanes, models, octets, items[:many + 1])
        # Some of these stops came behind a number's class.
        self.assertGreater(inner, 3)


def read_of_it(lanes, models, octets, items):
    """Whether of the last item, a number, the class alone would be read."""
    wants = wants_of(items[:-1]) + [0, items[-1][1]]
    return len(read(lanes, models, octets, wants)[0]) == len(items)


class CutAnyhow(unittest.TestCase):
    def test_in_one_call_or_in_several(self):
        chance = random.Random(10)
        models = (6, 4, 52, 9, 64, 2)
        looks = [done(), model(0), model(1), model(2)]
        for turn in range(60):
            lanes = chance.choice(ALL_LANES)
            items = some_items(chance, models, 100)
            octets = code(lanes, models, flat(items))
            if turn % 3 == 1:
                octets = octets[:max(4 * lanes, len(octets) - 2 * chance.randrange(60))]
            if turn % 3 == 2:
                octets += [9, 9]
            calls = []
            place = 0
            while place < len(items):
                size = chance.choice((0, 1, 1, 2, 3, 7, 16, 40))
                calls += [get(*wants_of(items[place:place + size]))] + chance.sample(looks, chance.randrange(3))
                place += size
            with self.subTest(turn=turn):
                whole = asked(lanes, models, octets, get(*wants_of(items)), *looks)
                found = asked(lanes, models, octets, *calls, *looks)
                values = [value for call, one in zip(calls, found) if call[0] == 4 for value in one[2:]]
                self.assertEqual([told(values), *found[-4:]], whole)

    def test_item_by_item_with_none_in_between(self):
        items = [(0, 0, j % 6) for j in range(80)] + [(2, 1, j * j) for j in range(80)]
        for lanes in ALL_LANES:
            octets = code(lanes, (6, 4, 52, 9), flat(items))
            calls = [call for item in items for call in (get(), get(*item[:2]))]
            found = asked(lanes, (6, 4, 52, 9), octets, *calls, done())
            self.assertEqual(found[:-1], [one for item in items for one in ([0, 0], [0, 1, item[2]])])
            self.assertEqual(found[-1], [1])

    def test_cut_at_every_place(self):
        items = [(0, 0, 5), (1, 31, 2 ** 31 - 1), (2, 1, 2 ** 40), (0, 0, 5), (0, 0, 1)]
        for lanes in ALL_LANES:
            octets = code(lanes, (6, 4, 52, 9), flat(items))
            for cut in range(6):
                found = asked(lanes, (6, 4, 52, 9), octets, get(*wants_of(items[:cut])), get(), done(),
                              get(*wants_of(items[cut:])), done())
                self.assertEqual(found, [told(values_of(items[:cut])), [0, 0], [int(cut == 5)],
                                         told(values_of(items[cut:])), [1]])


class Refused(unittest.TestCase):
    def test_not_now(self):
        self.assertEqual(ask(get(), get(0, 0), get(0), get(9, 9)), [[-4]] * 4)
        self.assertEqual(ask(begin(1, (2, 2)), get(), get(0, 0), get(0), get(9, 9), end(), get(), get(0, 0), get(0)),
                         [[0]] + [[-4]] * 4 + [[0, 4] + FIRST] + [[-4]] * 3)
        self.assertEqual(ask(open_row(1, (2, 2), HIGH), begin(1, (2, 2)), get(0, 0))[2], [-4])

    def wrong(self, models, *wants):
        """Each list of wants is refused, and nothing of it is read."""
        for some in wants:
            with self.subTest(models=models, wants=some[:8]):
                found = asked(1, models, HIGH, get(*some), get(0, 0), done())
                self.assertEqual(found, [[-1], [0, 1, models[0] - 1], [0]])

    def test_an_odd_number_of_numbers(self):
        self.wrong((2, 2), (0,), (1,), (0, 0, 0), (0, 0, 1, 1, 1), (0,) * 4999)

    def test_what(self):
        self.wrong((2, 2), (3, 0), (3, 1), (4, 0), (255, 1), (MOST, 0))

    def test_a_model_there_is_not(self):
        self.wrong((2, 2), (0, 1), (0, 2), (0, MOST), (2, 1), (2, MOST))
        self.wrong((2, 2) * 16, (0, 16), (2, 16))
        self.assertEqual(asked(1, (2, 2) * 16, HIGH, get(0, 15)), [[0, 1, 1]])
        self.assertEqual(asked(1, (2, 2) * 16, HIGH, get(2, 15)), [[0, 1, 2]])

    def test_bits(self):
        self.wrong((2, 2), (1, 0), (1, 53), (1, 54), (1, MOST))
        self.assertEqual(asked(4, (2, 2), HIGH * 4, get(1, 52)), [[0, 1, 2 ** 52 - 1]])

    def test_a_numbers_model(self):
        self.wrong((53, 2), (2, 0))
        self.wrong((64, 2), (2, 0))
        self.wrong((52, 2, 53, 2), (2, 1), (2, 0, 2, 1))
        self.assertEqual(asked(4, (53, 2, 52, 2), HIGH * 4, get(2, 1)), [[0, 1, 2 ** 52 - 2]])

    def test_anywhere_in_the_list(self):
        for wrong in ((3, 0), (0, 1), (1, 0), (1, 53), (2, 1)):
            for place in (0, 1, 5, 9):
                self.wrong((4, 2), (0, 0) * place + wrong + (0, 0) * (9 - place))
        # Also where it would stop ahead of the wrong one.
        self.assertEqual(asked(1, (2, 2), FIRST, get(0, 0, 3, 0)), [[-1]])
        self.wrong((2, 2), (1, 52, 1, 53))


if __name__ == "__main__":
    unittest.main()
