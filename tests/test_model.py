import unittest

from foretoldbits.model import Model


class Shares(unittest.TestCase):
    def test_at_first(self):
        self.assertEqual(Model(2, 2).begins, [0, 16384])
        self.assertEqual(Model(3, 2).begins, [0, 10922, 21845])
        self.assertEqual(Model(5, 9).begins, [0, 6553, 13107, 19660, 26214])
        self.assertEqual(Model(64, 9).begins, [512 * i for i in range(64)])
        self.assertEqual(Model(5, 9).seen, 0)

    def test_beginning_and_places(self):
        model = Model(3, 2)
        self.assertEqual([model.share(s) for s in range(3)], [(0, 10922), (10922, 10923), (21845, 10923)])

    def test_seeing(self):
        # T is 1, 2 up to the symbol, 32,766 and 32,767 behind it; rate 2.
        told = {0: [0, (10922 * 3 + 32766) // 4, (21845 * 3 + 32767) // 4],
                1: [0, (10922 * 3 + 1) // 4, (21845 * 3 + 32767) // 4],
                2: [0, (10922 * 3 + 1) // 4, (21845 * 3 + 2) // 4]}
        self.assertEqual(told, {0: [0, 16383, 24575], 1: [0, 8191, 24575], 2: [0, 8191, 16384]})
        for symbol, begins in told.items():
            model = Model(3, 9)
            model.see(symbol)
            self.assertEqual((model.begins, model.seen), (begins, 1))

    def test_every_symbol_keeps_a_share(self):
        for n in (2, 3, 52, 64):
            for slowness in range(2, 10):
                for often in (0, n // 2, n - 1):
                    model = Model(n, slowness)
                    for turn in range(12 << slowness):
                        model.see(often)
                    shares = [model.share(s) for s in range(n)]
                    self.assertTrue(all(places >= 1 for begin, places in shares))
                    self.assertEqual(sum(places for begin, places in shares), 32768)
                    self.assertEqual(model.begins[0], 0)
                    self.assertLess(model.begins[-1], 32768)


class Rate(unittest.TestCase):
    def test_by_what_is_seen(self):
        steps = ((0, 2), (1, 2), (2, 3), (5, 3), (6, 4), (13, 4), (14, 5), (29, 5), (30, 6), (61, 6), (62, 7),
                 (125, 7), (126, 8), (253, 8), (254, 9), (509, 9), (510, 10), (65535, 17))
        for slowness in range(2, 10):
            for seen, rate in steps:
                model = Model(2, slowness)
                model.seen = seen
                self.assertEqual(model.rate(), min(rate, slowness))

    def test_seen_has_an_end(self):
        model = Model(2, 9)
        for turn in range(65535):
            model.see(turn % 2)
        self.assertEqual(model.seen, 65535)
        model.see(1)
        self.assertEqual(model.seen, 65535)


if __name__ == "__main__":
    unittest.main()
