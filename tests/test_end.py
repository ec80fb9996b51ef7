import random
import unittest

from helper import (FIRST, Lacks, OwnReader, Rows, ask, begin, code, end, flat, open_row, plain_count, put,
                    read_items, some_items)


class ByHand(unittest.TestCase):
    """Rows worked out by hand from the document; the remarks show the steps."""

    def test_no_items(self):
        for lanes in (1, 4, 8, 16):
            self.assertEqual(ask(begin(lanes, (2, 2)), end())[1], [0, 4 * lanes] + FIRST * lanes)
            self.assertEqual(ask(begin(lanes, (2, 2)), put(), end())[2], [0, 4 * lanes] + FIRST * lanes)

    def test_one_symbol(self):
        # Shares of 16,384: 65,536 becomes 4 * 32,768, and 16,384 more for symbol 1.
        self.assertEqual(code(1, (2, 2), (0, 0, 0)), [0, 0, 2, 0])
        self.assertEqual(code(1, (2, 2), (0, 0, 1)), [0, 64, 2, 0])

    def test_two_symbols(self):
        # Behind symbol 0 B(1) is (16,384 * 3 + 32,767) / 4 = 20,479. Symbol 1 (12,289 places) goes in first:
        # 5 * 32,768 + 4,091 + 20,479 = 188,410; then symbol 0: 11 * 32,768 + 8,186 = 368,634.
        self.assertEqual(code(1, (2, 2), (0, 0, 0, 0, 0, 1)), [250, 159, 5, 0])

    def test_fifteen_bits(self):
        # One place: 65,536 * 32,768 + the bits.
        self.assertEqual(code(1, (2, 2), (1, 15, 0)), [0, 0, 0, 128])
        self.assertEqual(code(1, (2, 2), (1, 15, 32767)), [255, 127, 0, 128])
        self.assertEqual(code(1, (2, 2), (1, 15, 0x1234)), [0x34, 0x12, 0, 128])

    def test_one_bit(self):
        self.assertEqual(code(1, (2, 2), (1, 1, 0)), [0, 0, 2, 0])
        self.assertEqual(code(1, (2, 2), (1, 1, 1)), [0, 64, 2, 0])

    def test_sixteen_bits(self):
        # The highest bit goes in first: 147,456. That's 131,072 or more: the word 16,384 goes out, 2 is left,
        # and becomes 2 * 32,768 + 32,767.
        self.assertEqual(code(1, (2, 2), (1, 16, 65535)), [255, 127, 1, 0, 0, 64])

    def test_forty_five_bits(self):
        # 2^31 + 3, then the word 3 and 2^30 + 2, then the word 2 and 2^29 + 1.
        value = 1 + 2 * 2 ** 15 + 3 * 2 ** 30
        self.assertEqual(code(1, (2, 2), (1, 45, value)), [1, 0, 0, 32, 2, 0, 3, 0])

    def test_fifty_two_bits_in_four_lanes(self):
        # A state each: 2^31 + 1, 2^31 + 2, 2^31 + 3; seven bits, 4, have 256 places from 1,024 on: 256 * 32,768 + 1,024.
        value = 1 + 2 * 2 ** 15 + 3 * 2 ** 30 + 4 * 2 ** 45
        self.assertEqual(code(4, (2, 2), (1, 52, value)),
                         [1, 0, 0, 128, 2, 0, 0, 128, 3, 0, 0, 128, 0, 4, 128, 0])

    def test_a_full_share_at_the_edge(self):
        # The state 131,072 with one place is just s times 131,072: the word 0 goes out.
        self.assertEqual(code(1, (2, 2), (1, 15, 5, 1, 1, 0)), [5, 0, 1, 0, 0, 0])
        # 14 bits have 2 places: 262,144 is the edge. Two bits, 0, bring the state to it, one bit, 1, only to 147,456.
        self.assertEqual(code(1, (2, 2), (1, 14, 0, 1, 2, 0)), [0, 0, 1, 0, 0, 0])
        self.assertEqual(code(1, (2, 2), (1, 14, 0, 1, 1, 1)), [0, 0, 0, 144])

    def test_a_number(self):
        # 5 + 1 is 110: class 2, then the two bits 10. B is 0, 10,922, 21,845.
        # The bits: 8 * 32,768 + 16,384 = 278,528; the symbol: 25 * 32,768 + 5,453 + 21,845 = 846,498.
        self.assertEqual(code(1, (3, 2), (2, 0, 5)), [162, 234, 12, 0])
        # In four lanes: 5 * 32,768 + 10,921 + 21,845 = 196,606, and 278,528.
        self.assertEqual(code(4, (3, 2), (2, 0, 5)), [254, 255, 2, 0, 0, 64, 4, 0] + FIRST * 2)

    def test_a_number_of_class_0(self):
        # Symbol 0 alone, 10,922 places: 6 * 32,768 + 4.
        self.assertEqual(code(1, (3, 2), (2, 0, 0)), [4, 0, 3, 0])

    def test_a_group_that_is_full_and_one_that_is_not(self):
        # The models see 0, 1, 0, 1 behind the fourth item: B(1) is 20,479, 15,359, 17,535 (rate 3 now), 15,343.
        # The fifth, symbol 1 (17,425 places): 3 * 32,768 + 13,261 + 15,343 = 126,908; the first on top of it:
        # 7 * 32,768 + 12,220 = 241,596.
        items = (0, 0, 0, 0, 0, 1, 0, 0, 0, 0, 0, 1)
        rest = [0, 64, 2, 0, 0, 0, 2, 0, 0, 64, 2, 0]
        self.assertEqual(code(4, (2, 3), items), [0, 0, 2, 0] + rest)
        self.assertEqual(code(4, (2, 3), items + (0, 0, 1)), [188, 175, 3, 0] + rest)

    def test_within_a_group_the_models_stay(self):
        self.assertEqual(code(8, (2, 2), (0, 0, 0) * 7), [0, 0, 2, 0] * 7 + FIRST)
        self.assertEqual(code(8, (2, 2), (0, 0, 1) * 8), [0, 64, 2, 0] * 8)

    def test_words_of_eight_lanes(self):
        items = [number for j in range(16) for number in (1, 15, j)]
        states = [number for j in range(8) for number in (j, 0, 0, 64)]
        words = [number for j in range(8, 16) for number in (j, 0)]
        self.assertEqual(code(8, (2, 2), items), states + words)

    def test_sixteen_lanes(self):
        items = [number for j in range(16) for number in (1, 1, j % 2)]
        self.assertEqual(code(16, (2, 2), items), [0, 0, 2, 0, 0, 64, 2, 0] * 8)

    def test_plain_bits_are_of_the_group_and_no_model_sees_them(self):
        # Symbol 0 and three times one bit are a group; behind it B(1) is 20,479.
        # Symbol 1, the fifth: 188,410 (as with two symbols in one lane), then symbol 0: 368,634.
        items = (0, 0, 0) + (1, 1, 0) * 3 + (0, 0, 1)
        self.assertEqual(code(4, (2, 2), items), [250, 159, 5, 0] + [0, 0, 2, 0] * 3)

    def test_only_the_symbols_own_model_sees_it(self):
        # Model 1 has seen nothing when its symbol comes: 147,456 first, then 9 * 32,768 + 0 for symbol 0.
        self.assertEqual(code(1, (2, 2, 2, 2), (0, 0, 0, 0, 1, 1)), [0, 128, 4, 0])


class Answer(unittest.TestCase):
    def test_told_as_a_list(self):
        self.assertEqual(ask(begin(1, (2, 2)), put(1, 16, 65535), end())[2], [0, 6, 255, 127, 1, 0, 0, 64])

    def test_idle_then(self):
        self.assertEqual(ask(begin(1, (2, 2)), end(), end(), put(0, 0, 0)), [[0], [0, 4] + FIRST, [-4], [-4]])

    def test_it_does_not_put(self):
        self.assertEqual(ask(end()), [[-4]])
        self.assertEqual(ask(open_row(1, (2, 2), FIRST), end()), [[0], [-4]])


class ReadBack(Rows, unittest.TestCase):
    def check(self, lanes, models, items):
        octets = code(lanes, models, items)
        self.assertTrue(all(0 <= octet <= 255 for octet in octets))
        self.assertEqual(read_items(lanes, models, octets, items), (list(items), True))

    def test_the_slowness_shows(self):
        items = (0, 0, 1) * 500 + (0, 0, 0)
        rows = [code(1, (3, slowness), items) for slowness in range(2, 10)]
        self.assertEqual(len({tuple(row) for row in rows}), 8)

    def test_how_many_are_told(self):
        chance = random.Random(2)
        for turn in range(20):
            items = some_items(chance, (52, 4, 7, 7), 100)
            counted = ask(begin(8, (52, 4, 7, 7)), put(*flat(items)))[1]
            self.assertEqual(counted, [sum(plain_count(item) for item in items)])

    def test_the_lanes_change_the_bytes_never_the_items(self):
        items = flat([(0, 0, j % 5) for j in range(200)])
        rows = [code(lanes, (5, 5), items) for lanes in (1, 4, 8, 16)]
        self.assertEqual(len({tuple(row) for row in rows}), 4)

    def test_the_reader_of_the_tests_finds_faults(self):
        octets = code(1, (4, 4), (0, 0, 3) * 30)
        octets[0] ^= 1
        reader = OwnReader(1, (4, 4), octets)
        try:
            found = [reader.symbol(0) for _ in range(30)]
        except Lacks:
            return
        self.assertFalse(found == [3] * 30 and reader.at_end())


if __name__ == "__main__":
    unittest.main()
