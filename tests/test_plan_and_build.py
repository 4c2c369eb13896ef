"""Points 4 to 6: shape, plan, build, mend, retie."""

import unittest

from clocktree.shapes import is_shape, pairs_of_tree, splits, tree_of_numbers
from tests.asking import P, ask, build, drop, last, leaf, mend, move, plan, retie, shape, source

MOST_OF_ALL = 4294967295

FIRST_OF_SIX = (0, 5, 6, 4, 7, 3, 8, 2, 9, 1)


class Shape(unittest.TestCase):
    def test_no_leaf_comes_ahead_of_no_shape(self):
        self.assertEqual(ask(shape(), shape(0), shape(0, 1), shape(*range(20))), [[-16]] * 4)

    def test_one_leaf(self):
        self.assertEqual(ask(leaf(3, 4), shape(), build()), [[0], [0], [4 * P]])
        for pairs in ((0,), (0, 0), (0, 1), (1, 0), (0, 1, 2, 3)):
            self.assertEqual(last(leaf(0, 0), shape(*pairs)), [-22], pairs)

    def test_two_leaves(self):
        two = (leaf(0, 0), leaf(1, 1))
        for pairs in ((0, 1), (1, 0)):
            self.assertEqual(last(*two, shape(*pairs)), [0], pairs)
        for pairs in ((), (0,), (1,), (0, 0), (1, 1), (0, 2), (2, 0), (1, 2), (2, 2), (0, 1, 2), (0, 1, 2, 3),
                      (0, 1, 0, 1), (0, MOST_OF_ALL), (MOST_OF_ALL, 1)):
            self.assertEqual(last(*two, shape(*pairs)), [-22], pairs)

    def test_three_leaves(self):
        three = (leaf(0, 0), leaf(1, 1), leaf(2, 2))
        for pairs in ((0, 1, 3, 2), (0, 1, 2, 3), (2, 0, 1, 3), (1, 2, 3, 0)):
            self.assertEqual(last(*three, shape(*pairs)), [0], pairs)
        # Too few, too many, used twice, left out, itself, what is not made yet, beyond all.
        for pairs in ((0, 1), (0, 1, 3), (0, 1, 3, 2, 4), (0, 1, 3, 2, 4, 5), (0, 1, 1, 2), (0, 1, 0, 2),
                      (0, 1, 3, 3), (0, 0, 3, 1), (0, 3, 1, 2), (0, 4, 1, 2), (0, 1, 2, 4), (0, 1, 2, 5)):
            self.assertEqual(last(*three, shape(*pairs)), [-22], pairs)

    def test_a_pair_joins_what_is_there_already(self):
        four = [leaf(k, 0) for k in range(4)]
        self.assertEqual(last(*four, shape(1, 2, 0, 4, 3, 5)), [0])
        self.assertEqual(last(*four, shape(0, 5, 1, 2, 3, 4)), [-22])

    def test_eight_leaves(self):
        eight = [leaf(k, 0) for k in range(8)]
        self.assertEqual(last(*eight, shape(0, 1, 2, 3, 4, 5, 6, 7, 8, 9, 10, 11, 12, 13)), [0])
        self.assertEqual(last(*eight, shape(0, 1, 2, 3, 4, 5, 6, 7, 8, 9, 10, 11, 12, 12)), [-22])
        self.assertEqual(last(*eight, shape(*range(20))), [-22])

    def test_it_is_the_plan_and_what_is_built_stays(self):
        leaves = (leaf(0, 0), leaf(100, 0), leaf(2, 0))
        told = ask(*leaves, shape(0, 2, 3, 1), build(), shape(0, 1, 3, 2), mend(), build(), mend())
        self.assertEqual(told[3:], [[0], [151 * P], [0], [0], [200 * P], [0]])

    def test_a_refusal_leaves_the_plan(self):
        leaves = (leaf(0, 0), leaf(100, 0), leaf(2, 0))
        self.assertEqual(ask(*leaves, shape(0, 2, 3, 1), shape(0, 1), build())[4:], [[-22], [151 * P]])
        self.assertEqual(ask(*leaves, shape(0, 1), build())[3:], [[-22], [-16]])

    def test_joints_stand_in_their_order(self):
        # The pairs that are handed in may come in another order than that of the joints.
        tree = tree_of_numbers([3, 4, 2, 1, 6, 0, 5, 7], 5)
        self.assertEqual(tree, ((3, 4), ((2, 1), 0)))
        self.assertEqual(pairs_of_tree(tree, 5), ((3, 4), (2, 1), (6, 0), (5, 7)))
        tree = tree_of_numbers([0, 1, 2, 3, 5, 4], 4)
        self.assertEqual(pairs_of_tree(tree, 4), ((2, 3), (0, 1), (4, 5)))

    def test_is_shape_looks_at_all(self):
        self.assertTrue(is_shape([], 1))
        self.assertFalse(is_shape([0, 1], 1))
        self.assertFalse(is_shape([], 2))


class Plan(unittest.TestCase):
    def test_which_refusal_comes_first(self):
        seven = [leaf(k, 0) for k in range(7)]
        self.assertEqual(ask(plan(2), plan(0), plan(1)), [[-22], [-16], [-16]])
        self.assertEqual(ask(*seven, plan(2), plan(0), plan(1), plan(MOST_OF_ALL))[7:], [[-22], [-7], [-7], [-22]])
        self.assertEqual(last(leaf(0, 0), plan(2)), [-22])

    def test_a_refusal_leaves_the_plan(self):
        leaves = (leaf(0, 0), leaf(100, 0), leaf(2, 0))
        self.assertEqual(ask(*leaves, shape(0, 1, 3, 2), plan(2), build())[4:], [[-22], [200 * P]])
        seven = [leaf(0, 0) for k in range(7)]
        told = ask(*seven, shape(0, 1, 7, 2, 8, 3, 9, 4, 10, 5, 11, 6), plan(0), build(), leaf(1, 1), plan(1), build())
        self.assertEqual(told[7:], [[0], [-7], [0], [7], [-7], [-16]])

    def test_six_and_seven_leaves(self):
        # All along one street: pairs of neighbours with 1 each, two of these joined with 2, the third with 3.
        six = [leaf(k, k) for k in range(6)]
        self.assertEqual(last(*six, plan(0)), [8 * P, 5 * P // 2, 8 * P])
        self.assertEqual(last(*six, leaf(9, 9), plan(0)), [-7])
        self.assertEqual(last(*six, leaf(9, 9), drop(6), plan(0)), [8 * P, 5 * P // 2, 8 * P])

    def test_one_leaf(self):
        self.assertEqual(ask(leaf(5, 9, 7, 65535), plan(0), plan(1), build())[1:], [[0, 7 * P, 0]] * 2 + [[9 * P]])

    def test_two_leaves(self):
        self.assertEqual(last(leaf(0, 0, 0, 1), leaf(10, 4, 0, 6), plan(0)), [10 * P, 5 * P, 15 * P])
        self.assertEqual(last(leaf(0, 0, 0, 1), leaf(4, -10, 0, 6), plan(0)), [10 * P, 5 * P, 15 * P])
        # One later by less than it is apart, and by more: the wire goes round then.
        self.assertEqual(last(leaf(0, 0, 4, 1), leaf(10, 0, 0, 3), plan(0)), [10 * P, 7 * P, (3 + 14) * P])
        self.assertEqual(last(leaf(0, 0, 20, 1), leaf(10, 0, 0, 3), plan(0)), [20 * P, 20 * P, 40 * P])
        self.assertEqual(last(leaf(0, 0, 0, 1), leaf(10, 0, 20, 3), plan(0)), [20 * P, 20 * P, 20 * P])

    def test_least_wire(self):
        # The two that are near one another are joined first, wherever they stand among the leaves.
        self.assertEqual(last(leaf(0, 0), leaf(100, 0), leaf(2, 0), plan(0)), [101 * P, 50 * P, 101 * P])
        self.assertEqual(last(leaf(0, 0), leaf(2, 0), leaf(100, 0), plan(0)), [101 * P, 50 * P, 101 * P])
        self.assertEqual(last(leaf(100, 0), leaf(0, 0), leaf(2, 0), plan(0)), [101 * P, 50 * P, 101 * P])

    def test_least_power(self):
        # Nearest are 0 and 1; but 0 and 2 tick in one step, 1 in fifteen others.
        leaves = (leaf(0, 0, 0, 1), leaf(10, 0, 0, 65534), leaf(-12, 0, 0, 1))
        self.assertEqual(last(*leaves, plan(0)), [27 * P, 11 * P, (5 + 5 * 15 + 6 * 16 + 11) * P])
        self.assertEqual(last(*leaves, plan(1)), [28 * P, 11 * P, (6 + 6 + 5 + 11 * 15) * P])

    def test_of_like_power_the_least_wire(self):
        # Joining 0 and 2 first comes to 102, too, but with a wire of 18.
        leaves = (leaf(0, 0, 0, 1), leaf(10, 0, 0, 65534), leaf(0, 12, 0, 1))
        self.assertEqual(last(*leaves, plan(1)), [17 * P, 6 * P, 102 * P])
        # Nothing is ever needed: all have no power, and the wire tells.
        idle = (leaf(0, 0, 0, 0), leaf(100, 0, 0, 0), leaf(2, 0, 0, 0))
        self.assertEqual(last(*idle, plan(1)), [101 * P, 50 * P, 0])

    def test_power_counts_a_step_once_behind_a_wire(self):
        leaves = (leaf(0, 0, 0, 3), leaf(2, 0, 0, 6), leaf(21, 0, 0, 0))
        # 1 to each of two with two steps, 10 - 0.5 to both with three, and a wire that never ticks.
        self.assertEqual(last(*leaves, shape(0, 1, 3, 2), plan(0)), [22 * P, 21 * P // 2, (4 * P + 57 * P // 2)])

    def test_of_like_ones_the_first(self):
        # All shapes come to the same, and the first is ((0 2) 1): moved apart then, they tell that it is.
        equal = (leaf(0, 0), leaf(10, 0), leaf(0, 10))
        apart = (move(1, 100, 0), move(2, 2, 0), build())
        for by in (0, 1):
            told = ask(*equal, plan(by), *apart)
            self.assertEqual(told[3:], [[15 * P, 5 * P, 15 * P], [0], [0], [151 * P]])
        self.assertEqual(last(*equal, shape(0, 1, 3, 2), *apart), [200 * P])
        self.assertEqual(last(*equal, shape(1, 2, 0, 3), *apart), [199 * P])

    def test_the_first_of_six(self):
        # (((((0 5) 4) 3) 2) 1): each last one stays on the first side as long as can be.
        leaves = [leaf(7, 7, 7, 7) for k in range(6)]
        moves = [move(k, 3 ** k, -k * k, k, k) for k in range(6)]
        for by in (0, 1):
            planned = last(*leaves, plan(by), *moves, build())
            self.assertEqual(planned, last(*leaves, shape(*FIRST_OF_SIX), *moves, build()))

    def test_the_plan_is_without_a_trunk(self):
        told = ask(source(1000, 0), leaf(0, 0), leaf(10, 0), plan(0), plan(1), build())
        self.assertEqual(told[3:], [[10 * P, 5 * P, 10 * P], [10 * P, 5 * P, 10 * P], [1005 * P]])

    def test_what_is_built_stays(self):
        leaves = (leaf(0, 0), leaf(100, 0), leaf(2, 0), source(50, 0))
        told = ask(*leaves, shape(0, 1, 3, 2), build(), plan(0), mend(), retie(), build())
        self.assertEqual(told[5:], [[150 * P], [101 * P, 50 * P, 101 * P], [0], [150 * P], [101 * P]])

    def test_order_of_splits(self):
        self.assertEqual(splits((4,)), [])
        self.assertEqual(splits((4, 6)), [((4,), (6,))])
        self.assertEqual(splits((0, 1, 2)), [((0, 2), (1,)), ((0, 1), (2,)), ((0,), (1, 2))])


class Build(unittest.TestCase):
    def test_no_plan(self):
        self.assertEqual(ask(build(), leaf(0, 0), build()), [[-16], [0], [-16]])

    def test_the_root_is_as_near_to_the_source_as_can_be(self):
        # All places of sum 5 and difference -5 to 5 are as good but for the trunk.
        two = (leaf(0, 0), leaf(10, 0), shape(0, 1))
        self.assertEqual(last(*two, build()), [15 * P])
        self.assertEqual(last(*two, source(5, 4), build()), [10 * P])
        self.assertEqual(last(*two, source(5, 25), build()), [30 * P])
        self.assertEqual(last(*two, source(5, -25), build()), [30 * P])
        self.assertEqual(last(*two, source(-20, 3), build()), [35 * P])

    def test_joints_are_as_near_to_the_joint_above_as_can_be(self):
        # The root is at (20, 20), so joint 4 is at (5, 5), joint 5 at (5, 35): moves tell where.
        four = (leaf(0, 0), leaf(10, 0), leaf(0, 40), leaf(10, 40), source(20, 20), shape(0, 1, 2, 3, 4, 5))
        self.assertEqual(last(*four, build()), [(20 + 30) * P])
        self.assertEqual(last(*four, build(), move(0, 5, 10), mend()), [0])
        self.assertEqual(last(*four, build(), move(0, 5, 11), mend()), [3 * P])
        self.assertEqual(last(*four, build(), move(0, 5, 0), mend()), [0])
        self.assertEqual(last(*four, build(), move(0, 5, -1), mend()), [3 * P])

    def test_one_leaf(self):
        self.assertEqual(last(leaf(-8, 3, 50), source(1, 1), plan(), build()), [9 * P])

    def test_wires_longer_than_from_end_to_end(self):
        # Leaf 0 is so late that the root is where it is, and the wire to leaf 1 goes round.
        late = (leaf(0, 0, 20), leaf(10, 0), shape(0, 1))
        self.assertEqual(ask(*late, build(), mend())[3:], [[20 * P], [0]])
        self.assertEqual(last(*late, source(9, 0), build()), [29 * P])

    def test_again_after_a_move(self):
        told = ask(leaf(0, 0), leaf(10, 0), shape(0, 1), build(), move(1, 20, 0), build(), source(10, 0), build())
        self.assertEqual(told[3:], [[15 * P], [0], [30 * P], [0], [20 * P]])

    def test_halves_are_told_in_parts(self):
        self.assertEqual(ask(leaf(0, 0), leaf(1, 0), plan(0), build())[2:], [[256, 128, 256], [256 + 128]])

    def test_as_far_as_can_be(self):
        told = ask(leaf(-100000, 0), leaf(100000, 0, 100000), source(0, -100000), plan(1), build())
        # The root is at sum 50,000 and difference -50,000 at the least.
        self.assertEqual(told[3:], [[200000 * P, 150000 * P, 200000 * P], [250000 * P]])


class Mend(unittest.TestCase):
    PAIR = (leaf(0, 0), leaf(10, 0), source(5, 0), shape(0, 1), build())

    def test_nothing_built(self):
        self.assertEqual(ask(mend(), leaf(0, 0), mend(), plan(), mend(), retie())[-2:], [[-16], [-16]])
        self.assertEqual(ask(mend(), leaf(0, 0), mend(), plan(), mend())[::2], [[-16], [-16], [-16]])

    def test_just_built_there_is_nothing_to_mend(self):
        self.assertEqual(ask(*self.PAIR, mend(), mend())[5:], [[0], [0]])

    def test_a_wire_too_short(self):
        # 15 to the moved one and so to the other, too: 5 and 5 before.
        self.assertEqual(ask(*self.PAIR, move(1, 20, 0), mend(), mend(), retie())[6:], [[20 * P], [0], [30 * P]])

    def test_no_wire_becomes_shorter(self):
        told = ask(*self.PAIR, move(1, 20, 0), mend(), move(1, 10, 0), mend(), retie(), mend())
        self.assertEqual(told[6:], [[20 * P], [0], [0], [10 * P], [0]])

    def test_a_leaf_that_is_later(self):
        self.assertEqual(ask(*self.PAIR, move(1, 10, 0, 7), mend(), retie())[6:], [[7 * P], [17 * P]])

    def test_a_leaf_that_is_sooner(self):
        late = (leaf(0, 0, 20), leaf(10, 0), source(0, 0), shape(0, 1), build(), move(0, 0, 0))
        # The joint is at leaf 0: mended, its wire of 0 becomes 20; tied anew, both have 10.
        self.assertEqual(ask(*late, mend(), retie())[6:], [[20 * P], [20 * P]])

    def test_the_trunk(self):
        told = ask(*self.PAIR, source(8, 0), mend(), source(6, 0), mend(), retie(), source(5, 0), retie())
        self.assertEqual(told[6:], [[3 * P], [0], [0], [11 * P], [0], [10 * P]])

    def test_one_leaf(self):
        told = ask(leaf(4, 0), plan(), build(), move(0, 9, 0, 100), mend(), move(0, 1, 0), mend(), retie())
        self.assertEqual(told[2:], [[4 * P], [0], [5 * P], [0], [0], [P]])

    def test_both_sides_too_soon_the_wire_ahead_of_them_is_longer(self):
        # The pair 0, 1 has to be 9 later: once ahead of their joint, not behind it on both sides.
        three = (leaf(0, 0), leaf(2, 0), leaf(21, 0), shape(0, 1, 3, 2), build())
        self.assertEqual(ask(*three, move(2, 21, 0, 9), mend(), retie())[6:], [[9 * P], [(22 + 9) * P + 21 * P // 2]])
        four = (leaf(0, 0), leaf(2, 0), leaf(21, 0), leaf(23, 0), shape(0, 1, 2, 3, 4, 5), build())
        self.assertEqual(last(*four, move(2, 21, 0, 9), move(3, 23, 0, 9), mend()), [9 * P])
        self.assertEqual(last(*four, move(3, 23, 0, 9), mend()), [(9 + 9) * P])

    def test_a_refusal_leaves_all(self):
        told = ask(leaf(0, 0), plan(), mend(), retie(), build())
        self.assertEqual(told[2:], [[-16], [-16], [0]])

    def test_joints_stay_where_they_are(self):
        # The joint at (5, 0) is in the middle no more, but it's not moved by either.
        told = ask(*self.PAIR, move(1, 20, 0), mend(), retie(), move(0, 5, 0), move(1, 5, 0), retie())
        self.assertEqual(told[6:], [[20 * P], [30 * P], [0], [0], [0]])
        told = ask(*self.PAIR, source(100, 0), retie(), source(5, 0), retie())
        self.assertEqual(told[6:], [[105 * P], [0], [10 * P]])


class Retie(unittest.TestCase):
    def test_nothing_built(self):
        self.assertEqual(ask(retie(), leaf(0, 0), shape(), retie()), [[-16], [0], [0], [-16]])

    def test_just_built_it_stays(self):
        three = (leaf(0, 0, 40), leaf(2, 0), leaf(21, 0), shape(0, 1, 3, 2), build())
        built = ask(*three)[-1]
        self.assertEqual(ask(*three, retie(), retie(), mend())[5:], [built, built, [0]])

    def test_what_is_too_long_becomes_shorter(self):
        four = (leaf(0, 0), leaf(2, 0), leaf(21, 0), leaf(23, 0), source(11, 0), shape(0, 1, 2, 3, 4, 5), build())
        before = ask(*four)[-1]
        self.assertEqual(before, [(2 + 2 + 21) * P + P // 2])
        told = ask(*four, move(0, -50, 0), mend(), move(0, 0, 0), retie())
        self.assertEqual(told[7:], [[0], [50 * 3 * P], [0], before])


if __name__ == "__main__":
    unittest.main()
