import unittest

from helper import FIRST, MOST, ask, begin, done, end, get, model, open_row, put

GOOD = (2, 2)


class Begin(unittest.TestCase):
    def test_lanes_that_may_be(self):
        for lanes in (1, 4, 8, 16):
            with self.subTest(lanes=lanes):
                self.assertEqual(ask(begin(lanes, GOOD), end()), [[0], [0, 4 * lanes] + FIRST * lanes])

    def test_lanes_that_may_not_be(self):
        for lanes in (0, 2, 3, 5, 6, 7, 9, 12, 15, 17, 32, MOST):
            with self.subTest(lanes=lanes):
                self.assertEqual(ask(begin(lanes, GOOD), end()), [[-1], [-4]])

    def test_symbols(self):
        for n in (2, 3, 52, 53, 63, 64):
            with self.subTest(n=n):
                self.assertEqual(ask(begin(1, (n, 5)), put(0, 0, n - 1), put(0, 0, n)), [[0], [1], [-1]])
        for n in (0, 1, 65, 66, 128, MOST):
            with self.subTest(n=n):
                self.assertEqual(ask(begin(1, (n, 5)), put()), [[-1], [-4]])

    def test_slowness(self):
        for slowness in range(2, 10):
            with self.subTest(slowness=slowness):
                self.assertEqual(ask(begin(1, (4, slowness)), put()), [[0], [0]])
        for slowness in (0, 1, 10, 11, 64, MOST):
            with self.subTest(slowness=slowness):
                self.assertEqual(ask(begin(1, (4, slowness)), put()), [[-1], [-4]])

    def test_how_many_models(self):
        for many in range(1, 17):
            with self.subTest(many=many):
                self.assertEqual(ask(begin(4, GOOD * many), put(0, many - 1, 1), put(0, many, 1)), [[0], [1], [-1]])
        self.assertEqual(ask(begin(4, ())), [[-1]])
        self.assertEqual(ask(begin(4, GOOD * 17)), [[-1]])
        self.assertEqual(ask(begin(4, GOOD * 2500)), [[-1]])

    def test_an_odd_number_of_numbers(self):
        for models in ((2,), (2, 2, 2), GOOD * 15 + (2,), GOOD * 16 + (2,)):
            with self.subTest(models=models):
                self.assertEqual(ask(begin(1, models), put()), [[-1], [-4]])

    def test_any_model_may_be_the_wrong_one(self):
        for wrong in ((1, 2), (65, 2), (2, 1), (2, 10)):
            for place in range(16):
                with self.subTest(wrong=wrong, place=place):
                    models = GOOD * place + wrong + GOOD * (15 - place)
                    self.assertEqual(ask(begin(1, models)), [[-1]])

    def test_n_and_slowness_do_not_change_places(self):
        self.assertEqual(ask(begin(1, (64, 9))), [[0]])
        self.assertEqual(ask(begin(1, (9, 64))), [[-1]])

    def test_whatever_it_did(self):
        calls_then = [begin(4, (3, 4)), done(), model(0), put(0, 0, 2, 2, 0, 5), put(0, 0, 2), model(0), end()]
        fresh = ask(*calls_then)
        before = (
            [end()],
            [begin(1, (2, 2))],
            [begin(4, (3, 4)), put(*(0, 0, 1) * 40)],
            [begin(4, (3, 4)), put(0, 0, 1), end()],
            [open_row(1, (2, 2), FIRST)],
            [begin(16, (3, 4)), put(0, 0, 1), open_row(4, (3, 4), FIRST * 4)],
            # In the middle of a group, behind a stop, at a row's end.
            [begin(4, (3, 4)), put(*(0, 0, 1) * 6)],
            [open_row(4, (3, 4), [255] * 16), get(0, 0)],
            [open_row(4, (3, 4), [255] * 16), get(*(0, 0) * 6)],
            [open_row(4, (3, 4), [255] * 16), get(*(1, 52) * 6), get(0, 0)],
            [open_row(4, (3, 4), FIRST * 4), get(0, 0), done()],
        )
        for calls in before:
            with self.subTest(calls=calls):
                self.assertEqual(ask(*calls, *calls_then)[len(calls):], fresh)

    def test_it_reads_no_more(self):
        found = ask(open_row(1, GOOD, FIRST), done(), begin(1, GOOD), done(), get(), end(), done(), get())
        self.assertEqual(found, [[0], [1], [0], [2], [-4], [0, 4] + FIRST, [3], [-4]])


if __name__ == "__main__":
    unittest.main()
