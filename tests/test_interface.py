"""The interface: how calls are handed in and answers given back, and that nothing is kept or changed."""

import time
import unittest

from clocktree.clock import answers
from tests.asking import P, build, drop, flat, leaf, mend, move, new, plan, retie, shape, source

EACH = flat([
    new(), leaf(0, 0, 0, 1), leaf(10, 0, 0, 3), source(5, 9), shape(1, 0), build(), move(0, 2, 0, 0, 1), mend(),
    retie(), plan(0), plan(1), drop(0), drop(7), leaf(0, 0, 0, 65536), shape(0, 0), new(), build()])


class Interface(unittest.TestCase):
    def test_each_call_with_its_count(self):
        self.assertEqual(answers(EACH), [
            1, 0, 1, 0, 1, 1, 1, 0, 1, 0, 1, 14 * P, 1, 0, 1, 0, 1, 14 * P,
            3, 8 * P, 4 * P, 12 * P, 3, 8 * P, 4 * P, 12 * P, 1, 1, 1, -2, 1, -22, 1, -22, 1, 0, 1, -16])

    def test_numbers_as_they_stand(self):
        self.assertEqual(answers([0]), [1, 0])
        self.assertEqual(answers([2, -3, 4, 0, 1, 5, 0, 7]), [1, 0, 1, 0, 1, 1024])
        self.assertEqual(answers([2, 0, 0, 0, 1, 2, 6, 0, 0, 3, 5, 2, 0, 1, 7, 6, 1]),
                         [1, 0, 1, 1, 1, 0, 1, 2304, 3, 1536, 768, 2304])

    def test_what_is_handed_in_stays_as_it_was(self):
        calls = list(EACH)
        answers(calls)
        self.assertEqual(calls, EACH)

    def test_asked_twice_it_answers_the_same(self):
        first = answers(EACH)
        answers(flat([leaf(1, 1), leaf(2, 2), plan(0), build()]))
        self.assertEqual(answers(EACH), first)
        self.assertEqual(answers([7]), [1, -16])

    def test_what_is_given_back_is_a_list_of_its_own(self):
        first = answers(EACH)
        kept = list(first)
        first.clear()
        self.assertEqual(answers(EACH), kept)

    def test_kinds(self):
        told = answers(EACH)
        self.assertIs(type(told), list)
        self.assertEqual({type(number) for number in told}, {int})

    def test_shape_of_no_numbers_and_of_twenty(self):
        self.assertEqual(answers([5, 0, 5, 20] + list(range(20)) + [0]), [1, -16, 1, -16, 1, 0])
        self.assertEqual(answers(leaf(0, 0) + [5, 20] + [0] * 20 + [7, 5, 0, 7]), [1, 0, 1, -22, 1, -16, 1, 0, 1, 0])

    def test_150_calls_of_the_longest_kind_end_soon(self):
        leaves = [leaf(k * k - 9, 5 * k - k ** 3, k % 3, 1 << k) for k in range(6)]
        plans = [plan(k % 2) for k in range(144)]
        begin = time.monotonic()
        answers(flat(leaves + plans))
        self.assertLess(time.monotonic() - begin, 30)


if __name__ == "__main__":
    unittest.main()
