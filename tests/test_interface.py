"""The interface: how calls are handed in and answers given back, and that nothing is kept or changed."""

import time
import unittest

from clocktree.clock import COUNTS, answers
from tests.asking import (
    P, anew, build, drop, ends, flat, joint, leaf, mend, move, new, plan, redo, retie, shape, short, source, sums,
    ticking, told, undo, when)

EACH = flat([
    new(), leaf(0, 0, 0, 1), leaf(10, 0, 0, 3), source(5, 9), shape(1, 0), build(), move(0, 2, 0, 0, 1), mend(),
    retie(), plan(0), plan(1), drop(0), drop(7), leaf(0, 0, 0, 65536), shape(0, 0), undo(), redo(), undo(), told(),
    sums(), ends(), when(1), when(2), joint(0), joint(1), short(), anew(), ticking(1), ticking(16), new(), build(),
    undo(), redo(), told(), sums(), ends(), when(0), joint(0), short(), anew(), ticking(0)])


class Interface(unittest.TestCase):
    def test_each_call_with_its_count(self):
        self.assertEqual(answers(EACH), [
            1, 0, 1, 0, 1, 1, 1, 0, 1, 0, 1, 14 * P, 1, 0, 1, 0, 1, 14 * P,
            3, 8 * P, 4 * P, 12 * P, 3, 8 * P, 4 * P, 12 * P, 1, 1, 1, -2, 1, -22, 1, -22,
            # Wires of 5 and 5 from (5, 5), and a trunk of 4; once more, planned as (0 1).
            1, 10, 1, 0, 1, 10, 3, 2, 0, 1, 3, 14 * P, 23 * P, 4 * P, 2, 9 * P, 9 * P, 1, 9 * P, 1, -2,
            5, 0, 5 * P, 5 * P, 5 * P, 5 * P, 1, -2, 1, 0, 2, 14 * P, 13 * P, 1, 9 * P, 1, -22, 1, 0, 1, -16,
            1, -6, 1, -6] + [1, -16] * 8)

    def test_all_twenty_are_among_them(self):
        self.assertEqual(len(COUNTS) + 1, 20)
        self.assertEqual(sorted([*COUNTS, 5]), list(range(20)))

    def test_numbers_as_they_stand(self):
        self.assertEqual(answers([0]), [1, 0])
        self.assertEqual(answers([2, -3, 4, 0, 1, 5, 0, 7]), [1, 0, 1, 0, 1, 1024])
        self.assertEqual(answers([2, 0, 0, 0, 1, 2, 6, 0, 0, 3, 5, 2, 0, 1, 7, 6, 1]),
                         [1, 0, 1, 1, 1, 0, 1, 2304, 3, 1536, 768, 2304])
        two = [2, 0, 0, 0, 1, 2, -6, 0, 0, 3, 5, 2, 1, 0, 7]
        self.assertEqual(answers(two + [12, 13, 14, 15, 1, 16, 0, 17, 18, 19, 1]),
                         [1, 0, 1, 1, 1, 0, 1, 2304, 3, 2, 1, 0, 3, 2304, 3840, 768, 2, 1536, 1536, 1, 1536,
                          5, 0, -768, 0, 768, 768, 1, 0, 2, 2304, 2304, 1, 1536])
        self.assertEqual(answers([10, 11, 1, 1, 1, 10, 11, 11, 10, 10]),
                         [1, -6, 1, -6, 1, 0, 1, 0, 1, 0, 1, -6, 1, 0, 1, -6])

    def test_what_is_handed_in_stays_as_it_was(self):
        calls = list(EACH)
        answers(calls)
        self.assertEqual(calls, EACH)

    def test_asked_twice_it_answers_the_same(self):
        first = answers(EACH)
        answers(flat([leaf(1, 1), leaf(2, 2), plan(0), build()]))
        self.assertEqual(answers(EACH), first)
        self.assertEqual(answers([7]), [1, -16])

    def test_what_is_given_back_is_a_list_of_its_own(self):
        first = answers(EACH)
        kept = list(first)
        first.clear()
        self.assertEqual(answers(EACH), kept)

    def test_kinds(self):
        told = answers(EACH)
        self.assertIs(type(told), list)
        self.assertEqual({type(number) for number in told}, {int})

    def test_shape_of_no_numbers_and_of_twenty(self):
        self.assertEqual(answers([5, 0, 5, 20] + list(range(20)) + [0]), [1, -16, 1, -16, 1, 0])
        self.assertEqual(answers(leaf(0, 0) + [5, 20] + [0] * 20 + [7, 5, 0, 7]), [1, 0, 1, -22, 1, -16, 1, 0, 1, 0])

    def test_any_call_may_be_first(self):
        for call, answer in ((new(), 0), (source(1, 1), 0), (leaf(1, 1), 0), (move(0, 1, 1), -2), (drop(0), -2),
                             (shape(), -16), (plan(), -16), (build(), -16), (mend(), -16), (retie(), -16), (undo(), -6),
                             (redo(), -6), (told(), -16), (sums(), -16), (ends(), -16), (when(0), -16),
                             (joint(0), -16), (short(), -16), (anew(), -16), (ticking(0), -16)):
            self.assertEqual(answers(call), [1, answer], call)

    def test_nothing_to_be_taken_back_is_kept_from_one_list_to_the_next(self):
        answers(flat([source(1, 1), source(2, 2), undo()]))
        self.assertEqual(answers(flat([undo(), redo()])), [1, -6, 1, -6])

    def test_150_calls_of_the_longest_kind_end_soon(self):
        leaves = [leaf(k * k - 9, 5 * k - k ** 3, k % 3, 1 << k) for k in range(6)]
        plans = [plan(k % 2) for k in range(144)]
        begin = time.monotonic()
        answers(flat(leaves + plans))
        self.assertLess(time.monotonic() - begin, 30)


if __name__ == "__main__":
    unittest.main()
