import unittest

from helper import FIRST, HIGH, MOST, ask, begin, code, done, end, get, model, open_row, put

GOOD = (2, 2)
LOW = [255, 255, 0, 0]


class Opened(unittest.TestCase):
    def test_it_reads(self):
        for lanes in (1, 4, 8, 16):
            with self.subTest(lanes=lanes):
                found = ask(open_row(lanes, GOOD, FIRST * lanes), put(), end(), done(), get())
                self.assertEqual(found, [[0], [-4], [-4], [1], [0, 0]])

    def test_what_is_coded_can_be_read(self):
        for lanes in (1, 4, 8, 16):
            models = (7, 3, 52, 9)
            for items in ((), (0, 0, 6) * 33, (1, 52, 2 ** 52 - 1, 2, 1, 2 ** 52 - 2) * 20):
                octets = code(lanes, models, items)
                self.assertEqual(ask(open_row(lanes, models, octets)), [[0]])

    def test_the_least_and_the_highest_state(self):
        self.assertEqual(ask(open_row(1, GOOD, FIRST), open_row(1, GOOD, HIGH)), [[0], [0]])

    def test_states_and_words_are_kept(self):
        octets = [1, 2, 3, 132] + FIRST * 2 + HIGH + [5, 6, 0, 1, 255, 0, 7, 0, 7, 0]
        # 15 bits of each state: 0x84030201 leaves 67,590, 2^32 - 1 leaves 131,071, the others 2 and the next word.
        # Each state wants a word for 15 bits more, and the last has none.
        found = ask(open_row(4, GOOD, octets), get(*(1, 15) * 8))
        self.assertEqual(found[1], [0, 7, 0x0201, 0, 0, 0x7FFF, 67590 % 32768, 0x0605, 0x0100])

    def test_whatever_it_did(self):
        before = (
            [begin(1, GOOD)],
            [begin(1, GOOD), put(0, 0, 1)],
            [begin(1, GOOD), end()],
            [open_row(16, (3, 3), FIRST * 16)],
            [open_row(1, GOOD, [])],
            # In the middle of a group, behind a stop, at a row's end.
            [begin(4, GOOD), put(*(0, 0, 1) * 6)],
            [open_row(4, GOOD, HIGH * 4), get(0, 0)],
            [open_row(4, GOOD, HIGH * 4), get(*(0, 0) * 6)],
            [open_row(4, GOOD, HIGH * 4), get(*(1, 52) * 6), get(0, 0)],
            [open_row(4, GOOD, FIRST * 4), get(0, 0), done()],
        )
        calls_then = [open_row(4, GOOD, HIGH * 4), put(0, 0, 0), end(), done(), model(0), get(*(0, 0) * 5), model(0),
                      get(1, 52, 1, 52), done()]
        fresh = ask(*calls_then)
        self.assertEqual(fresh[:6], [[0], [-4], [-4], [0], [0, 2, 0, 16384], [0, 5, 1, 1, 1, 1, 1]])
        for calls in before:
            with self.subTest(calls=calls):
                self.assertEqual(ask(*calls, *calls_then)[len(calls):], fresh)


class Misshapen(unittest.TestCase):
    def test_as_begin(self):
        for lanes in (0, 2, 3, 5, 7, 9, 15, 17, 32, MOST):
            self.assertEqual(ask(open_row(lanes, GOOD, FIRST * 16)), [[-1]])
        wrong = ((), (2,), (2, 2, 2), GOOD * 17, (1, 2), (65, 2), (2, 1), (2, 10), GOOD * 15 + (0, 2), (MOST, 2))
        for models in wrong:
            with self.subTest(models=models):
                self.assertEqual(ask(open_row(1, models, FIRST)), [[-1]])
        for models in (GOOD * 16, (64, 9), (64, 2), (2, 9)):
            self.assertEqual(ask(open_row(1, models, FIRST)), [[0]])

    def test_how_many_bytes(self):
        for lanes in (1, 4, 8, 16):
            some = FIRST * 1000
            self.assertEqual(ask(open_row(lanes, GOOD, some)), [[0]])
            self.assertEqual(ask(open_row(lanes, GOOD, some + [0])), [[-1]])
            self.assertEqual(ask(open_row(lanes, GOOD, some + [0, 0])), [[-1]])
            self.assertEqual(ask(open_row(lanes, GOOD, some + FIRST * 250)), [[-1]])

    def test_ahead_of_what_the_bytes_are(self):
        self.assertEqual(ask(open_row(2, GOOD, [])), [[-1]])
        self.assertEqual(ask(open_row(4, (2, 2, 2), [])), [[-1]])
        self.assertEqual(ask(open_row(4, (), LOW * 4)), [[-1]])
        self.assertEqual(ask(open_row(4, (2, 1), FIRST * 4 + [0])), [[-1]])
        self.assertEqual(ask(open_row(1, GOOD, [0] * 4001)), [[-1]])


class Unreadable(unittest.TestCase):
    def test_fewer_than_the_states_have(self):
        for lanes in (1, 4, 8, 16):
            for many in range(4 * lanes):
                with self.subTest(lanes=lanes, many=many):
                    self.assertEqual(ask(open_row(lanes, GOOD, (FIRST * lanes)[:many])), [[-8, many]])

    def test_few_comes_ahead_of_low_and_odd(self):
        self.assertEqual(ask(open_row(4, GOOD, LOW * 3)), [[-8, 12]])
        self.assertEqual(ask(open_row(4, GOOD, LOW * 3 + [0])), [[-8, 13]])
        self.assertEqual(ask(open_row(1, GOOD, [])), [[-8, 0]])

    def test_each_state_in_turn(self):
        for lanes in (1, 4, 8, 16):
            for lane in range(lanes):
                for low in (LOW, [0, 0, 0, 0], [1, 0, 0, 0], [0, 128, 0, 0]):
                    with self.subTest(lanes=lanes, lane=lane, low=low):
                        octets = HIGH * lane + low + FIRST * (lanes - 1 - lane)
                        self.assertEqual(ask(open_row(lanes, GOOD, octets)), [[-8, 4 * lane]])
                        self.assertEqual(ask(open_row(lanes, GOOD, octets + [7, 7])), [[-8, 4 * lane]])

    def test_the_first_of_several_states(self):
        self.assertEqual(ask(open_row(4, GOOD, FIRST + LOW + FIRST + LOW)), [[-8, 4]])
        self.assertEqual(ask(open_row(16, GOOD, FIRST * 3 + LOW * 13)), [[-8, 12]])

    def test_words_may_be_low(self):
        self.assertEqual(ask(open_row(1, GOOD, FIRST + [0, 0, 0, 0])), [[0]])
        self.assertEqual(ask(open_row(4, GOOD, FIRST * 4 + LOW)), [[0]])

    def test_an_odd_number(self):
        for lanes in (1, 4, 8, 16):
            for more in (1, 3, 5, 101):
                with self.subTest(lanes=lanes, more=more):
                    place = 4 * lanes + more - 1
                    self.assertEqual(ask(open_row(lanes, GOOD, FIRST * lanes + [9] * more)), [[-8, place]])
                    self.assertEqual(ask(open_row(lanes, GOOD, FIRST * lanes + [9] * (more + 1))), [[0]])
        self.assertEqual(ask(open_row(1, GOOD, (FIRST * 1000)[:3999])), [[-8, 3998]])

    def test_low_comes_ahead_of_odd(self):
        self.assertEqual(ask(open_row(4, GOOD, FIRST * 3 + LOW + [0])), [[-8, 12]])


if __name__ == "__main__":
    unittest.main()
