"""Points 1 to 3: new, source, leaf, move, drop."""

import unittest

from tests.asking import P, ask, build, drop, last, leaf, mend, move, new, plan, retie, shape, source

EDGE = 100000
LEAST = -2147483648
MOST = 2147483647
MOST_OF_ALL = 4294967295

# Two leaves 10 from one another, built from just between them: wires of 5 and 5, no trunk.
PAIR = (leaf(0, 0), leaf(10, 0), source(5, 0), shape(0, 1), build())


class New(unittest.TestCase):
    def test_answers_zero_at_any_time(self):
        self.assertEqual(ask(new(), leaf(1, 1), new(), new()), [[0], [0], [0], [0]])

    def test_no_leaves_no_plan_nothing_built(self):
        told = ask(*PAIR, new(), build(), mend(), retie(), shape(), plan(), drop(0), move(0, 1, 1))
        self.assertEqual(told[len(PAIR) + 1:], [[-16], [-16], [-16], [-16], [-16], [-2], [-2]])

    def test_leaves_are_numbered_from_zero_again(self):
        self.assertEqual(ask(leaf(1, 1), leaf(2, 2), new(), leaf(3, 3)), [[0], [1], [0], [0]])

    def test_the_source_is_at_the_beginning_again(self):
        self.assertEqual(last(source(50, 50), new(), leaf(7, 0), plan(), build()), [7 * P])

    def test_what_is_there_at_the_beginning(self):
        self.assertEqual(ask(build(), mend(), retie(), shape(), plan(0), drop(0)),
                         [[-16], [-16], [-16], [-16], [-16], [-2]])
        self.assertEqual(last(leaf(7, -9), plan(), build()), [9 * P])


class Source(unittest.TestCase):
    def test_is_there_then(self):
        self.assertEqual(last(leaf(7, 1), plan(), source(3, 21), build()), [20 * P])

    def test_edges(self):
        for s, t in ((EDGE, EDGE), (-EDGE, -EDGE), (EDGE, -EDGE), (-EDGE, EDGE)):
            self.assertEqual(ask(leaf(0, 0), plan(), source(s, t), build())[2:], [[0], [EDGE * P]])

    def test_out_of_bounds(self):
        for s, t in ((EDGE + 1, 0), (-EDGE - 1, 0), (0, EDGE + 1), (0, -EDGE - 1), (LEAST, 0), (0, MOST)):
            told = ask(leaf(0, 0), plan(), source(4, 0), source(s, t), build())
            self.assertEqual(told[3:], [[-22], [4 * P]], (s, t))

    def test_what_is_built_stays(self):
        # Only the trunk has to be longer, and is not before it is mended.
        self.assertEqual(ask(*PAIR, source(8, 0), mend(), mend())[-2:], [[3 * P], [0]])
        self.assertEqual(last(*PAIR, source(8, 0), source(5, 0), mend()), [0])


class AddLeaf(unittest.TestCase):
    def test_numbers(self):
        self.assertEqual(ask(*[leaf(k, k) for k in range(8)]), [[k] for k in range(8)])

    def test_ninth(self):
        self.assertEqual(ask(*[leaf(k, k) for k in range(8)], leaf(8, 8), leaf(9, 9))[8:], [[-28], [-28]])

    def test_ninth_changes_nothing(self):
        eight = [leaf(0, 0)] * 8
        shape_of_eight = shape(0, 1, 2, 8, 3, 9, 4, 10, 5, 11, 6, 12, 7, 13)
        told = ask(*eight, shape_of_eight, build(), leaf(5, 5), build(), mend())
        self.assertEqual(told[8:], [[0], [0], [-28], [0], [0]])

    def test_room_again_after_a_drop(self):
        self.assertEqual(ask(*[leaf(0, 0)] * 8, leaf(1, 1), drop(3), leaf(1, 1))[8:], [[-28], [7], [7]])

    def test_edges(self):
        for s, t in ((EDGE, 0), (-EDGE, 0), (0, EDGE), (0, -EDGE)):
            self.assertEqual(ask(leaf(s, t, EDGE, 65535), plan(), build()), [[0], [0, EDGE * P, 0], [EDGE * P]])

    def test_out_of_bounds(self):
        for wrong in wrong_leaves():
            self.assertEqual(ask(leaf(*wrong), leaf(0, 0)), [[-22], [0]], wrong)

    def test_out_of_bounds_comes_ahead_of_no_room(self):
        for wrong in wrong_leaves():
            self.assertEqual(last(*[leaf(0, 0)] * 8, leaf(*wrong)), [-22], wrong)

    def test_no_plan_and_nothing_built_then(self):
        told = ask(*PAIR, leaf(3, 3), build(), mend(), retie())
        self.assertEqual(told[len(PAIR):], [[2], [-16], [-16], [-16]])

    def test_a_refusal_leaves_plan_and_built(self):
        told = ask(*PAIR, leaf(EDGE + 1, 0), mend(), retie(), build())
        self.assertEqual(told[len(PAIR):], [[-22], [0], [10 * P], [10 * P]])


class Move(unittest.TestCase):
    def test_is_there_then(self):
        told = ask(leaf(3, 4), move(0, 30, -40, 6, 7), plan(1), build())
        self.assertEqual(told[1:], [[0], [0, 6 * P, 0], [40 * P]])

    def test_need_and_late_are_anew(self):
        told = ask(leaf(0, 0, 0, 0), leaf(10, 0, 0, 0), plan(1), move(1, 10, 0, 2, 7), plan(1))
        self.assertEqual(told[2:], [[10 * P, 5 * P, 0], [0], [10 * P, 6 * P, 3 * 4 * P]])

    def test_no_such_leaf(self):
        self.assertEqual(last(move(0, 0, 0)), [-2])
        for k in (2, 3, 8, MOST_OF_ALL):
            self.assertEqual(last(*PAIR, move(k, 0, 0)), [-2], k)

    def test_no_such_leaf_comes_ahead_of_out_of_bounds(self):
        for wrong in wrong_leaves():
            self.assertEqual(last(leaf(0, 0), move(1, *wrong)), [-2], wrong)

    def test_out_of_bounds(self):
        for wrong in wrong_leaves():
            told = ask(*PAIR, move(1, *wrong), mend(), retie(), build(), plan())
            self.assertEqual(told[len(PAIR):], [[-22], [0], [10 * P], [10 * P], [10 * P, 5 * P, 5 * 2 * P]], wrong)

    def test_edges(self):
        for s, t in ((EDGE, EDGE), (-EDGE, EDGE), (EDGE, -EDGE), (-EDGE, -EDGE)):
            told = ask(leaf(0, 0), plan(), move(0, s, t, EDGE, 65535), build(), plan())
            self.assertEqual(told[2:], [[0], [EDGE * P], [0, EDGE * P, 0]])

    def test_the_plan_stays(self):
        # The best shape is another one then: what is built is still the plan of before.
        told = ask(leaf(0, 0), leaf(2, 0), leaf(100, 0), plan(), move(2, 1, 0), move(1, 101, 0), build(), plan())
        # Halves of a joint 50.5 from both its leaves, 0 and 50.5 from it and leaf 2 to the root, a trunk of 50.5.
        self.assertEqual(told[3:], [[101 * P, 50 * P, 101 * P], [0], [0], [4 * 101 * P // 2],
                                    [203 * P // 2, 101 * P // 2, 203 * P // 2]])

    def test_what_is_built_stays_with_its_lengths(self):
        self.assertEqual(last(*PAIR, move(1, 9, 0), mend()), [0])
        self.assertEqual(last(*PAIR, move(1, 9, 0), retie()), [10 * P])
        # Wires of 5 and 5 still: 15 are needed to the moved one, so 10 more on both sides.
        self.assertEqual(last(*PAIR, move(1, 20, 0), mend()), [20 * P])


class Drop(unittest.TestCase):
    # Joint 3 joins leaves 0 and 1 at (5, 0) with 5 and 5; the root is at (18, 0), 13 from it, 18 from leaf 2.
    THREE = (leaf(0, 0), leaf(10, 0), leaf(36, 0), source(18, 0), shape(0, 1, 3, 2), build())

    def test_no_such_leaf(self):
        self.assertEqual(last(drop(0)), [-2])
        for k in (3, 8, MOST_OF_ALL):
            told = ask(*self.THREE, drop(k), mend(), retie(), build())
            self.assertEqual(told[len(self.THREE):], [[-2], [0], [41 * P], [41 * P]], k)

    def test_what_three_comes_to(self):
        self.assertEqual(ask(*self.THREE)[-1], [41 * P])

    def test_those_behind_are_numbered_one_less(self):
        told = ask(leaf(1, 0), leaf(2, 0), leaf(3, 0), drop(0), drop(1), plan(), build(), move(1, 0, 0))
        self.assertEqual(told[3:], [[2], [1], [0, 0, 0], [2 * P], [-2]])

    def test_the_wire_to_the_joint_and_from_it_become_one(self):
        # 13 + 5 to leaf 0 or leaf 1; it is still at the same moment, with nothing to mend.
        for k in (0, 1):
            self.assertEqual(ask(*self.THREE, drop(k), mend())[-2:], [[2], [0]], k)
        self.assertEqual(last(*self.THREE, drop(1), retie()), [36 * P])
        # From the root at (18, 0) to leaf 1 at (10, 0) it is only 8, to leaf 2 18: 18 + 18 either way.
        self.assertEqual(last(*self.THREE, drop(0), retie()), [36 * P])

    def test_the_length_that_became_one_is_kept(self):
        # Leaf 1, number 0 then, can go as far from the root as 18 with nothing to mend, and no farther.
        self.assertEqual(last(*self.THREE, drop(0), move(0, 0, 0), mend()), [0])
        self.assertEqual(last(*self.THREE, drop(0), move(0, -1, 0), mend()), [2 * P])

    def test_behind_the_root_the_trunk_takes_the_wire(self):
        # The trunk of 0 and the wire of 13: from joint (5, 0), the source may be 13 away, no farther.
        self.assertEqual(ask(*self.THREE, drop(2), mend())[-2:], [[2], [0]])
        self.assertEqual(last(*self.THREE, drop(2), source(-8, 13), mend()), [0])
        self.assertEqual(last(*self.THREE, drop(2), source(-8, 14), mend()), [P])
        self.assertEqual(last(*self.THREE, drop(2), retie()), [23 * P])

    def test_down_to_one_leaf_and_none(self):
        told = ask(*self.THREE, drop(2), drop(0), mend(), source(28, 0), mend(), source(29, 0), mend(),
                   retie(), build(), drop(0), build(), mend(), retie(), shape(), leaf(5, 5))
        # The leaf at (10, 0) has a trunk of 0 + 13 + 5.
        self.assertEqual(told[len(self.THREE):], [
            [2], [1], [0], [0], [0], [0], [P], [19 * P], [19 * P], [0], [-16], [-16], [-16], [-16], [0]])

    def test_the_last_leaf_of_a_plan_that_is_not_built(self):
        self.assertEqual(ask(leaf(1, 1), plan(), drop(0), build(), plan()), [[0], [0, 0, 0], [0], [-16], [-16]])

    def test_no_plan_stays_no_plan(self):
        self.assertEqual(ask(leaf(1, 1), leaf(2, 2), drop(1), build(), mend())[2:], [[1], [-16], [-16]])

    def test_the_plan_and_what_is_built_each_lose_their_own_joint(self):
        # Built as ((0 1) 2), planned as ((0 2) 1): both are pairs then, and both are as they should be.
        told = ask(*self.THREE, shape(0, 2, 1, 3), drop(1), mend(), build(), drop(1), mend(), build())
        self.assertEqual(told[len(self.THREE):], [[0], [2], [0], [36 * P], [1], [0], [18 * P]])

    def test_the_other_side_takes_the_place_in_the_plan(self):
        # (((0 1) 2) 3) without leaf 1 is ((0 1) 2) of those left, not (0 (1 2)).
        leaves = (leaf(0, 0), leaf(500, 500), leaf(100, 0), leaf(2, 0))
        told = ask(*leaves, shape(0, 1, 4, 2, 5, 3), drop(1), build(), shape(0, 1, 3, 2), build(),
                   shape(1, 2, 0, 3), build())
        self.assertEqual(told[6], told[8])
        self.assertNotEqual(told[6], told[10])


def wrong_leaves():
    """s, t, late, need with one of them beyond its bounds, by one or by far."""
    wrong = []
    for s in (EDGE + 1, -EDGE - 1, LEAST, MOST):
        wrong += [(s, 0, 0, 0), (0, s, 0, 0)]
    for late in (EDGE + 1, MOST_OF_ALL):
        wrong.append((0, 0, late, 0))
    for need in (65536, MOST_OF_ALL):
        wrong.append((0, 0, 0, need))
    return wrong


if __name__ == "__main__":
    unittest.main()
