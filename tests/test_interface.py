import builtins
import copy
import subprocess
import sys
import time
import unittest
from unittest import mock

from foretoldbits.coder import answers
from helper import FIRST, apart, begin, done, end, get, model, open_row, put

SOME = (begin(4, (3, 3, 52, 9)) + put(0, 0, 2, 1, 52, 2 ** 52 - 1, 2, 1, 77) + put(9) + end() + end()
        + open_row(1, (2, 2), FIRST + [5, 5]) + put(0, 0, 0) + open_row(1, (2, 2), [1, 2, 3]) + begin(2, ())
        + done() + get(0, 0, 1, 30, 0, 0) + get(0, 0) + get(3, 3) + model(0) + model(7) + done())
# The first number that each of them answers, and how many there are; the row has four states and two words.
SOME_FIRST = [(0, 1), (7, 1), (-1, 1), (0, 22), (-4, 1), (0, 1), (-4, 1), (-8, 2), (-1, 1),
              (0, 1), (0, 3), (0, 2), (-1, 1), (0, 4), (-1, 1), (0, 1)]


class Answers(unittest.TestCase):
    def test_each_behind_its_count(self):
        calls = [0, 1, 2, 2, 2,  1, 3, 0, 0, 1,  2,  3, 1, 2, 2, 2, 4, 0, 0, 1, 0,  2,  3, 1, 2, 2, 2, 0]
        self.assertEqual(answers(calls), [1, 0,  1, 1,  6, 0, 4, 0, 64, 2, 0,  1, 0,  1, -4,  2, -8, 0])
        calls = [5,  3, 1, 2, 2, 2, 4, 0, 64, 2, 0,  5,  6, 0,  4, 2, 0, 0,  6, 0,  5,  4, 0,  4, 2, 1, 1,  6, 1,
                 4, 1, 7]
        self.assertEqual(answers(calls), [1, 3,  1, 0,  1, 0,  4, 0, 2, 0, 16384,  3, 0, 1, 1,  4, 0, 2, 0, 12288,
                                          1, 1,  2, 0, 0,  2, 0, 0,  1, -1,  1, -1])

    def test_one_call(self):
        self.assertEqual(answers([2]), [1, -4])
        self.assertEqual(answers([1, 0]), [1, -4])
        self.assertEqual(answers([0, 1, 0]), [1, -1])
        self.assertEqual(answers([3, 1, 0, 0]), [1, -1])
        self.assertEqual(answers([0, 16, 2, 64, 9]), [1, 0])
        self.assertEqual(answers([4, 0]), [1, -4])
        self.assertEqual(answers([5]), [1, 3])
        self.assertEqual(answers([6, 0]), [1, -4])

    def test_whole_numbers_in_a_list(self):
        found = answers(SOME)
        self.assertIs(type(found), list)
        self.assertEqual({type(number) for number in found}, {int})
        self.assertEqual([(answer[0], len(answer)) for answer in apart(found)], SOME_FIRST)

    def test_what_is_handed_in_stays(self):
        calls = list(SOME)
        before = copy.deepcopy(calls)
        answers(calls)
        self.assertEqual(calls, before)

    def test_not_changed_for_a_while_either(self):
        class Watched(list):
            def refuse(self, *args):
                raise AssertionError("changed")
            __setitem__ = __delitem__ = __iadd__ = append = extend = insert = pop = remove = clear = sort = refuse
            reverse = __imul__ = refuse

        self.assertEqual(answers(Watched(SOME)), answers(SOME))

    def test_nothing_is_kept(self):
        first = answers(SOME)
        self.assertEqual(answers([2]), [1, -4])
        self.assertEqual(answers(begin(1, (2, 2)) + put(0, 0, 0)), [1, 0, 1, 1])
        self.assertEqual(answers([1, 0]), [1, -4])
        self.assertEqual(answers(done() + model(0) + get()), [1, 3, 1, -4, 1, -4])
        first.append(5)
        self.assertEqual(answers(SOME), first[:-1])

    def test_the_most_calls(self):
        self.assertEqual(answers(end() * 400), [1, -4] * 400)
        self.assertEqual(answers(begin(1, (2, 2)) + put() * 399), [1, 0] * 400)

    def test_the_longest_list(self):
        full = begin(1, (64, 9)) + put(*(0, 0, 63) * 1000) + end()
        calls = full * 6
        self.assertLessEqual(len(calls), 19000)
        self.assertEqual(answers(calls), answers(full) * 6)

    def test_the_longest_rows(self):
        self.assertEqual(answers(begin(1, [2] * 5000) + begin(1, (2, 2)) + put(*[0] * 5000) + put(*[0] * 4998)),
                         [1, -1, 1, 0, 1, -1, 1, -7])
        self.assertEqual(answers(open_row(1, (2, 2), [255] * 5000)), [1, -1])
        self.assertEqual(answers(open_row(1, (2, 2), FIRST) + get(*[0] * 5000) + get(*[0] * 4998, 0, 1) + done()),
                         [1, 0, 2, 0, 0, 1, -1, 1, 1])


class GoodTime(unittest.TestCase):
    """Far more time than is needed on any machine, far less than a way that goes over all again and again takes."""

    def check(self, *calls):
        numbers = [number for call in calls for number in call]
        self.assertLessEqual(len(calls), 400)
        self.assertLessEqual(len(numbers), 19000)
        start = time.perf_counter()
        found = answers(numbers)
        self.assertLess(time.perf_counter() - start, 20)
        self.assertTrue(found == answers(numbers))
        return apart(found)

    def test_as_many_items_as_can_be_got(self):
        octets = [1, 1, 1, 1] * 1000
        for lanes in (1, 16):
            found = self.check(open_row(lanes, (64, 9), octets), *[get(*(0, 0) * 1240)] * 6)
            self.assertEqual(len(found[1]), 2 + 1240)
            found = self.check(open_row(lanes, (52, 2) * 16, octets), *[get(*(2, 15) * 1240)] * 6)
            self.assertGreater(len(found[1]), 300)

    def test_numbers_that_have_many_pieces(self):
        octets = [255] * 4000
        found = self.check(open_row(16, (2, 9, 52, 9), octets), *[get(*(1, 52) * 1240)] * 6)
        self.assertGreater(len(found[1]), 300)

    def test_as_many_calls_as_can_be(self):
        octets = [77] * 4000
        models = [64, 9] * 16
        found = self.check(open_row(16, models, octets), *[get(*[0, 15] * 15), model(15)] * 199, done())
        self.assertEqual([len(one) for one in found], [1] + [17, 66] * 199 + [1])
        found = self.check(begin(16, models), *[put(*[0, 15, 63] * 5), model(15)] * 199, end())
        self.assertEqual([len(one) for one in found[:-1]], [1] + [1, 66] * 199)
        self.check(*[done()] * 400)
        self.check(*[open_row(1, (2, 2), FIRST), get(0, 0), begin(1, (2, 2)), end()] * 100)


class Alone(unittest.TestCase):
    def test_prints_reads_and_imports_nothing(self):
        def refuse(*args, **named):
            raise AssertionError("not alone")

        told = answers(SOME)
        with mock.patch.object(builtins, "print", refuse), mock.patch.object(builtins, "open", refuse), \
                mock.patch.object(builtins, "input", refuse), mock.patch.object(builtins, "__import__", refuse):
            found = answers(SOME)
        self.assertEqual(found, told)

    def test_brings_only_its_own_modules(self):
        script = ("import sys; before = set(sys.modules); import foretoldbits.coder; "
                  "print(sorted(n for n in set(sys.modules) - before if n.partition('.')[0] != 'foretoldbits'))")
        found = subprocess.run([sys.executable, "-c", script], capture_output=True, text=True, check=True)
        self.assertEqual((found.stdout, found.stderr), ("[]\n", ""))


if __name__ == "__main__":
    unittest.main()
