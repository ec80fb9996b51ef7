import unittest

from helper import ALL_LANES, FIRST, HIGH, ask, begin, code, done, end, flat, get, open_row, put, wants_of


class Done(unittest.TestCase):
    def test_idle(self):
        self.assertEqual(ask(done(), done()), [[3], [3]])
        self.assertEqual(ask(begin(1, (2, 2)), end(), done())[2], [3])
        self.assertEqual(ask(begin(2, (2, 2)), done(), open_row(1, (2, 2), []), done()), [[-1], [3], [-8, 0], [3]])
        self.assertEqual(ask(open_row(1, (2, 2), FIRST), begin(1, (2, 2)), end(), done())[3], [3])

    def test_it_puts(self):
        found = ask(begin(4, (2, 2)), done(), put(0, 0, 1), done(), put(9), done(), put(*(0, 0, 1) * 7), done())
        self.assertEqual(found[1::2], [[2]] * 4)
        self.assertEqual(ask(open_row(1, (2, 2), FIRST), begin(1, (2, 2)), done())[2], [2])

    def test_a_row_of_no_items(self):
        for lanes in ALL_LANES:
            self.assertEqual(ask(open_row(lanes, (2, 2), FIRST * lanes), done(), done()), [[0], [1], [1]])
        self.assertEqual(ask(begin(1, (2, 2)), open_row(1, (2, 2), FIRST), done())[2], [1])

    def test_ahead_of_the_end_and_at_it(self):
        items = [(0, 0, 1), (1, 31, 5), (2, 0, 2), (0, 0, 0), (1, 52, 2 ** 52 - 1)] * 6
        for lanes in ALL_LANES:
            octets = code(lanes, (2, 2), flat(items))
            calls = [call for item in items for call in (done(), get(*item[:2]))]
            found = ask(open_row(lanes, (2, 2), octets), *calls, done(), get(), done())
            self.assertEqual(found[1:-3:2], [[0]] * len(items))
            self.assertEqual(found[-3:], [[1], [0, 0], [1]])

    def test_words_left_over(self):
        for lanes in ALL_LANES:
            self.assertEqual(ask(open_row(lanes, (2, 2), FIRST * lanes + [0, 0]), done())[1], [0])
            items = [(1, 15, 7)] * 40
            octets = code(lanes, (2, 2), flat(items)) + [0, 0]
            found = ask(open_row(lanes, (2, 2), octets), get(*wants_of(items)), done())
            self.assertEqual(found[1:], [[0, 40] + [7] * 40, [0]])

    def test_a_state_that_is_another(self):
        for lanes in ALL_LANES:
            for lane in range(lanes):
                for other in ([1, 0, 1, 0], [0, 1, 1, 0], [0, 0, 2, 0], [0, 0, 1, 1], HIGH):
                    octets = FIRST * lane + other + FIRST * (lanes - 1 - lane)
                    with self.subTest(lanes=lanes, lane=lane, other=other):
                        self.assertEqual(ask(open_row(lanes, (2, 2), octets), done())[1], [0])

    def test_no_words_left_and_another_state(self):
        # The word is read and leaves 131,072 + 5.
        found = ask(open_row(1, (2, 2), FIRST + [5, 0]), done(), get(1, 15), done(), get(1, 15), done())
        self.assertEqual(found[1:], [[0], [0, 1, 0], [0], [0, 0], [0]])

    def test_behind_a_stop(self):
        # It is told as it stands: a row that was at its end is so still.
        self.assertEqual(ask(open_row(1, (2, 2), FIRST), get(0, 0), done())[1:], [[0, 0], [1]])
        self.assertEqual(ask(open_row(1, (2, 2), HIGH), get(1, 30), done())[1:], [[0, 0], [0]])

    def test_it_changes_nothing(self):
        found = ask(open_row(1, (2, 2), [0, 64, 2, 0]), done(), done(), get(0, 0), done(), done())
        self.assertEqual(found[1:], [[0], [0], [0, 1, 1], [1], [1]])


if __name__ == "__main__":
    unittest.main()
