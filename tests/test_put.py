import unittest

from helper import FIRST, MOST, ask, begin, code, end, open_row, put


def after(models, *puts):
    """The answers to these puts behind a begin in one lane."""
    return [answer[0] for answer in ask(begin(1, models), *puts)[1:]]


class Counts(unittest.TestCase):
    def test_behind_those_before(self):
        self.assertEqual(after((4, 4), put(0, 0, 3), put(0, 0, 1, 0, 0, 2), put(), put(1, 1, 0)), [1, 3, 3, 4])

    def test_nothing_is_put(self):
        self.assertEqual(after((4, 4), put()), [0])

    def test_plain_bits_fifteen_at_a_time(self):
        told = {1: 1, 2: 1, 14: 1, 15: 1, 16: 2, 29: 2, 30: 2, 31: 3, 44: 3, 45: 3, 46: 4, 51: 4, 52: 4}
        for bits, many in told.items():
            with self.subTest(bits=bits):
                self.assertEqual(after((4, 4), put(1, bits, 0), put(1, bits, 2 ** bits - 1)), [many, 2 * many])

    def test_numbers(self):
        told = {0: 1, 1: 2, 2: 2, 2 ** 15 - 1: 2, 2 ** 16 - 2: 2, 2 ** 16 - 1: 3, 2 ** 31 - 2: 3, 2 ** 31 - 1: 4,
                2 ** 46 - 2: 4, 2 ** 46 - 1: 5, 2 ** 52 - 2: 5}
        for value, many in told.items():
            with self.subTest(value=value):
                self.assertEqual(after((52, 4), put(2, 0, value)), [many])

    def test_in_all_lanes(self):
        for lanes in (1, 4, 8, 16):
            with self.subTest(lanes=lanes):
                found = ask(begin(lanes, (5, 3)), put(0, 0, 4, 1, 31, 7, 2, 0, 9), put(0, 0, 0))
                self.assertEqual(found, [[0], [6], [7]])


class NotNow(unittest.TestCase):
    def test_idle(self):
        self.assertEqual(ask(put(0, 0, 0)), [[-4]])
        self.assertEqual(ask(begin(1, (2, 2)), end(), put(0, 0, 0))[2], [-4])

    def test_reading(self):
        self.assertEqual(ask(open_row(1, (2, 2), FIRST), put(0, 0, 0)), [[0], [-4]])
        self.assertEqual(ask(begin(1, (2, 2)), open_row(1, (2, 2), FIRST), put(0, 0, 0)), [[0], [0], [-4]])

    def test_ahead_of_the_other_refusals(self):
        self.assertEqual(ask(put(0, 0), put(9, 9, 9), put(*(1, 1, 0) * 1001)), [[-4]] * 3)


class Misshapen(unittest.TestCase):
    def test_no_multiple_of_three(self):
        for many in (1, 2, 4, 5, 7, 8, 3001):
            with self.subTest(many=many):
                self.assertEqual(after((2, 2), put(*[0] * many), put()), [-1, 0])

    def test_symbols(self):
        for n in (2, 3, 64):
            with self.subTest(n=n):
                wrong = [put(0, 0, value) for value in (n, n + 1, 2 ** 32, MOST)]
                self.assertEqual(after((n, 2), put(0, 0, 0), put(0, 0, n - 1), *wrong), [1, 2] + [-1] * 4)

    def test_each_model_has_its_own_n(self):
        models = (2, 2, 64, 9, 5, 5)
        self.assertEqual(after(models, put(0, 0, 1, 0, 1, 63, 0, 2, 4)), [3])
        self.assertEqual(after(models, put(0, 0, 2), put(0, 1, 64), put(0, 2, 5)), [-1] * 3)
        self.assertEqual(after(models, put(0, 2, 0), put(0, 3, 0), put(0, MOST, 0)), [1, -1, -1])

    def test_bits(self):
        self.assertEqual(after((2, 2), put(1, 0, 0), put(1, 53, 0), put(1, MOST, 0)), [-1] * 3)
        for bits in range(1, 53):
            with self.subTest(bits=bits):
                high = 2 ** bits
                many = (bits + 14) // 15
                self.assertEqual(after((2, 2), put(1, bits, high - 1), put(1, bits, high)), [many, -1])
                self.assertEqual(after((2, 2), put(1, bits, MOST)), [-1])

    def test_a_numbers_model(self):
        for n in (2, 51, 52):
            self.assertEqual(after((n, 2), put(2, 0, 0)), [1])
        for n in (53, 54, 64):
            self.assertEqual(after((n, 2), put(2, 0, 0), put(0, 0, n - 1)), [-1, 1])
        self.assertEqual(after((53, 2, 52, 2), put(2, 0, 0), put(2, 1, 0), put(2, 2, 0), put(2, MOST, 0)),
                         [-1, 1, -1, -1])

    def test_a_numbers_class(self):
        for n in range(2, 53):
            with self.subTest(n=n):
                last = n - 1
                many = 1 + (last + 14) // 15
                found = after((n, 2), put(2, 0, 2 ** last - 1), put(2, 0, 2 ** n - 2), put(2, 0, 2 ** n - 1))
                self.assertEqual(found, [many, 2 * many, -1])

    def test_the_highest_value(self):
        self.assertEqual(after((52, 2), put(2, 0, MOST), put(1, 52, MOST), put(0, 0, MOST)), [-1] * 3)

    def test_what(self):
        for what in (3, 4, 5, 255, MOST):
            self.assertEqual(after((2, 2), put(what, 0, 0), put(what, 1, 0)), [-1, -1])

    def test_any_item_may_be_the_wrong_one(self):
        for wrong in ((3, 0, 0), (0, 1, 0), (0, 0, 4), (1, 0, 0), (1, 1, 2), (2, 0, 15), (2, 1, 0)):
            for place in (0, 1, 5, 9):
                with self.subTest(wrong=wrong, place=place):
                    items = (0, 0, 3) * place + wrong + (0, 0, 3) * (9 - place)
                    self.assertEqual(after((4, 2), put(*items), put(0, 0, 3)), [-1, 1])


class TooMany(unittest.TestCase):
    def test_a_thousand(self):
        self.assertEqual(after((2, 2), put(*(0, 0, 1) * 1000), put(), put(0, 0, 1), put()), [1000, 1000, -7, 1000])
        self.assertEqual(after((2, 2), put(*(0, 0, 1) * 1001), put(0, 0, 1)), [-7, 1])

    def test_plain_items_are_counted(self):
        self.assertEqual(after((2, 2), put(*(1, 52, 0) * 250), put(1, 1, 0)), [1000, -7])
        self.assertEqual(after((2, 2), put(*(1, 52, 0) * 251)), [-7])
        self.assertEqual(after((52, 2), put(*(2, 0, 2 ** 52 - 2) * 200), put(2, 0, 0)), [1000, -7])

    def test_the_last_item_is_more_than_one(self):
        start = put(*(0, 0, 1) * 999)
        self.assertEqual(after((2, 2), start, put(1, 16, 0), put(2, 0, 1), put(2, 0, 0)), [999, -7, -7, 1000])

    def test_nothing_of_it_is_put(self):
        models = (3, 3)
        calls = [put(*(0, 0, 1) * 998), put(*(0, 0, 2) * 3), put(*(0, 0, 0) * 2)]
        self.assertEqual(after(models, *calls), [998, -7, 1000])
        found = ask(begin(4, models), *calls, end())[-1]
        self.assertEqual(found[2:], code(4, models, (0, 0, 1) * 998 + (0, 0, 0) * 2))

    def test_behind_the_shape(self):
        self.assertEqual(after((2, 2), put(*(0, 0, 1) * 1001, 0), put(*(0, 0, 1) * 1001, 0, 0, 2)), [-1, -1])

    def test_anew_behind_begin(self):
        full = put(*(1, 1, 0) * 1000)
        self.assertEqual(ask(begin(1, (2, 2)), full, begin(1, (2, 2)), full), [[0], [1000], [0], [1000]])


if __name__ == "__main__":
    unittest.main()
