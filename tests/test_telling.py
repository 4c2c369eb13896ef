"""Points 8 and 9: told, sums, ends, when, joint, short, anew, ticking."""

import unittest

from clocktree.building import built_from
from clocktree.changes import leaf_at
from clocktree.chip import Chip
from clocktree.telling import answer_telling
from tests.asking import (
    P, TELLINGS, anew, ask, behind, build, drop, ends, joint, last, leaf, mend, move, new, plan, retie, short, shape,
    source, sums, ticking, told, undo, when)

MOST_OF_ALL = 4294967295

LEAVES = (leaf(0, 0, 0, 1), leaf(10, 0, 0, 3), leaf(36, 0, 0, 4), source(20, 0))
# Joint 0 at (5, 0) has wires of 5 and 5, joint 1, the root, at (18, 0) has 13 and 18; the trunk has 2.
THREE = LEAVES + (shape(0, 1, 3, 2), build())

# What is told of what's built, without the plan: sums, ends, short, two joints, four leaves, four steps.
BUILT = (sums(), ends(), short(), joint(0), joint(1), when(0), when(1), when(2), when(3),
         ticking(0), ticking(1), ticking(2), ticking(3))
AS_BUILT = [[43, 65, 2], [20, 20], [0], [0, 5, 0, 5, 5], [0, 18, 0, 13, 18], [20], [20], [20], [-2],
            [25], [20], [20], [0]]
MOVED = THREE + (move(1, 20, 0, 4, 8),)
# The wire of 5 to leaf 1 should have 15; leaf 1 is needed in step 3 alone then, and late by 4.
AS_MOVED = [[43, 60, 2], [20, 24], [1], [0, 5, 0, 5, 5], [0, 18, 0, 13, 18], [20], [24], [20], [-2],
            [20], [0], [20], [20]]
# Both wires of joint 0 come to 19 with what's late; 13 more are 32, which the wire to leaf 2 takes too.
AS_MENDED = [[81, 98, 2], [34, 34], [0], [0, 5, 0, 19, 15], [0, 18, 0, 13, 32], [34], [34], [34], [-2],
             [34], [0], [34], [30]]
# The trunk alone is too short.
AS_SOURCE = AS_BUILT[:2] + [[1]] + AS_BUILT[3:]
AS_DROPPED_0 = [[38, 60, 2], [20, 20], [0], [0, 18, 0, 18, 18], [-2], [20], [20], [-2], [-2], [20], [20], [20], [0]]
AS_DROPPED_2 = [[25, 45, 15], [20, 20], [0], [0, 5, 0, 5, 5], [-2], [20], [20], [-2], [-2], [25], [20], [0], [0]]


def in_units(told_all):
    """Answers in whole units, as they are written here: all but refusals, counts of wires and 0."""
    found = []
    for call, one in zip(BUILT, told_all):
        is_count = call == short() or one[0] < 0
        assert is_count or all(number % P == 0 for number in one), one
        found.append(one if is_count else [number // P for number in one])
    return found


class BuiltTest(unittest.TestCase):
    def tells(self, calls, expected):
        self.assertEqual(in_units(behind(calls, *BUILT)), expected, calls)


class BehindChanges(BuiltTest):
    def test_build(self):
        self.tells(THREE, AS_BUILT)

    def test_move(self):
        self.tells(MOVED, AS_MOVED)

    def test_mend(self):
        self.tells(MOVED + (mend(),), AS_MENDED)

    def test_retie(self):
        # Tied anew, nothing but what's needed is longer, and that's the same here.
        self.tells(MOVED + (retie(),), AS_MENDED)
        self.tells(MOVED + (mend(), move(1, 10, 0, 0, 3), retie()), AS_BUILT)

    def test_source(self):
        self.tells(THREE + (source(30, 0),), AS_SOURCE)
        self.tells(THREE + (source(18, 2),), AS_BUILT)
        self.tells(THREE + (source(18, 3),), AS_SOURCE)
        # No wire is too long for short.
        self.tells(THREE + (source(18, 0),), AS_BUILT)

    def test_source_and_mend(self):
        self.assertEqual(in_units(behind(THREE, source(30, 0), mend(), *BUILT)[2:])[:3], [[53, 95, 12], [30, 30], [0]])
        self.assertEqual(in_units(behind(THREE, source(18, 0), mend(), *BUILT)[2:]), AS_BUILT)
        self.assertEqual(in_units(behind(THREE, source(18, 0), retie(), *BUILT)[2:])[:3], [[41, 59, 0], [18, 18], [0]])

    def test_drop(self):
        self.tells(THREE + (drop(0),), AS_DROPPED_0)
        self.tells(THREE + (drop(2),), AS_DROPPED_2)

    def test_drop_where_it_is_not_mended(self):
        # 5 and 13 become one of 18; that there was a wire too short is gone with leaf 1, or with its joint.
        self.tells(MOVED + (drop(1),),
                   [[38, 40, 2], [20, 20], [0], [0, 18, 0, 18, 18], [-2], [20], [20], [-2], [-2],
                    [20], [0], [20], [0]])
        self.tells(MOVED + (drop(2),),
                   [[25, 40, 15], [20, 24], [1], [0, 5, 0, 5, 5], [-2], [20], [24], [-2], [-2],
                    [20], [0], [0], [20]])

    def test_shape_plan_and_what_is_refused(self):
        for calls in ((shape(1, 2, 0, 3),), (plan(1),), (plan(2),), (shape(0, 1),), (drop(3),), (source(0, 100001),),
                      (move(3, 0, 0),), (move(0, 0, 0, 0, 65536),), (leaf(0, 0, 100001),)):
            self.tells(THREE + calls, AS_BUILT)

    def test_undo_of_each(self):
        changes = (build(), source(30, 0), move(1, 20, 0, 4, 8), drop(0), drop(1), mend(), retie(), leaf(1, 1), plan(1))
        for change in changes + (drop(2), shape(1, 2, 0, 3)):
            self.tells(THREE + (change, undo()), AS_BUILT)
            self.tells(MOVED + (change, undo()), AS_MOVED)
            self.tells(MOVED + (mend(), change, undo()), AS_MENDED)
        for change in changes + (shape(1, 0),):
            self.tells(THREE + (drop(0), change, undo()), AS_DROPPED_0)
            self.tells(THREE + (drop(2), change, undo()), AS_DROPPED_2)

    def test_leaf_and_new(self):
        for calls in (THREE + (leaf(1, 1),), THREE + (new(),), LEAVES, LEAVES + (plan(),), ()):
            self.assertEqual(behind(calls, *BUILT), [[-16]] * len(BUILT), calls)


class OneLeaf(BuiltTest):
    def test_built(self):
        self.tells((leaf(10, -3, 7, 6), source(4, 0), plan(), build()),
                   [[6, 12, 6], [13, 13], [0], [-2], [-2], [13], [-2], [-2], [-2], [0], [6], [6], [0]])

    def test_left_over(self):
        calls = THREE + (drop(2), drop(0))
        self.tells(calls, [[20, 40, 20], [20, 20], [0], [-2], [-2], [20], [-2], [-2], [-2], [20], [20], [0], [0]])
        self.assertEqual(behind(calls, told(), anew()), [[0], [20 * P, 10 * P]])

    def test_none_left(self):
        self.assertEqual(behind(THREE + (drop(2), drop(0), drop(0)), told(), *BUILT), [[-16]] * (1 + len(BUILT)))

    def test_moved(self):
        self.tells((leaf(10, 0), plan(), build(), move(0, 0, 11, 5, 0)),
                   [[10, 0, 10], [15, 15], [1], [-2], [-2], [15], [-2], [-2], [-2], [0], [0], [0], [0]])


class Told(unittest.TestCase):
    def test_no_plan(self):
        self.assertEqual(ask(told(), leaf(0, 0), told(), plan(), told(), leaf(1, 1), told()),
                         [[-16], [0], [-16], [0, 0, 0], [0], [1], [-16]])
        self.assertEqual(behind(THREE, new(), told()), [[0], [-16]])

    def test_one_leaf(self):
        self.assertEqual(ask(leaf(0, 0), shape(), told())[1:], [[0], [0]])

    def test_behind_shape(self):
        self.assertEqual(last(leaf(0, 0), leaf(1, 1), shape(1, 0), told()), [2, 1, 0])
        for pairs in ((0, 1, 3, 2), (0, 1, 2, 3), (2, 1, 3, 0)):
            self.assertEqual(behind(THREE, shape(*pairs), told()), [[0], [4, *pairs]])

    def test_joints_are_numbered_as_they_come(self):
        five = [leaf(k, 0) for k in range(5)]
        self.assertEqual(last(*five, shape(2, 1, 3, 4, 5, 0, 6, 7), told()), [8, 3, 4, 2, 1, 6, 0, 5, 7])
        four = [leaf(k, 0) for k in range(4)]
        self.assertEqual(last(*four, shape(0, 1, 2, 3, 5, 4), told()), [6, 2, 3, 0, 1, 4, 5])
        self.assertEqual(last(*four, shape(0, 1, 2, 3, 4, 5), told()), [6, 0, 1, 2, 3, 4, 5])

    def test_what_is_told_is_a_shape(self):
        eight = [leaf(k, k * k) for k in range(8)]
        pairs = (7, 3, 1, 8, 2, 6, 10, 9, 4, 5, 0, 12, 13, 11)
        first = last(*eight, shape(*pairs), told())
        self.assertEqual(len(first), 15)
        self.assertEqual(first[0], 14)
        again = ask(*eight, shape(*first[1:]), told(), build(), *TELLINGS)
        self.assertEqual(again[8:10], [[0], first])
        self.assertEqual(again[10:], ask(*eight, shape(*pairs), build(), *TELLINGS)[9:])

    def test_behind_plan(self):
        equal = (leaf(0, 0), leaf(10, 0), leaf(0, 10))
        self.assertEqual(behind(equal, plan(0), told(), plan(1), told())[1::2], [[4, 0, 2, 3, 1]] * 2)
        near = (leaf(100, 0), leaf(0, 0), leaf(2, 0))
        self.assertEqual(last(*near, plan(0), told()), [4, 1, 2, 0, 3])
        by_power = (leaf(0, 0, 0, 1), leaf(10, 0, 0, 65534), leaf(-12, 0, 0, 1))
        self.assertEqual(behind(by_power, plan(0), told(), plan(1), told())[1::2], [[4, 0, 1, 3, 2], [4, 0, 2, 3, 1]])
        six = [leaf(7, 7) for k in range(6)]
        self.assertEqual(last(*six, plan(), told()), [10, 0, 5, 6, 4, 7, 3, 8, 2, 9, 1])

    def test_behind_drop(self):
        self.assertEqual([last(*THREE, drop(k), told()) for k in range(3)], [[2, 0, 1]] * 3)
        five = [leaf(k, 0) for k in range(5)] + [shape(3, 4, 2, 1, 6, 0, 5, 7)]
        # ((3 4) ((2 1) 0)) with each one gone.
        self.assertEqual([last(*five, drop(k), told()) for k in range(5)], [
            [6, 2, 3, 1, 0, 4, 5], [6, 2, 3, 1, 0, 4, 5], [6, 2, 3, 1, 0, 4, 5], [6, 2, 1, 4, 0, 3, 5],
            [6, 2, 1, 4, 0, 3, 5]])

    def test_sides_keep_their_order_behind_drop(self):
        four = [leaf(k, 0) for k in range(4)] + [shape(2, 0, 4, 3, 1, 5)]
        # (1 ((2 0) 3)) with each one gone.
        self.assertEqual([last(*four, drop(k), told()) for k in range(4)],
                         [[4, 1, 2, 0, 3], [4, 1, 0, 3, 2], [4, 0, 2, 1, 3], [4, 2, 0, 1, 3]])

    def test_what_leaves_the_plan(self):
        for calls in ((move(1, 50, 50),), (source(3, 3),), (build(),), (mend(),), (retie(),), (plan(2),), (shape(0),),
                      (drop(0), undo()), (leaf(0, 0), undo()), (shape(1, 2, 0, 3), undo()), (plan(), undo())):
            self.assertEqual(last(*THREE, *calls, told()), [4, 0, 1, 3, 2], calls)


class Joint(unittest.TestCase):
    FOUR = (leaf(0, 0), leaf(10, 0), leaf(0, 40), leaf(10, 40), source(20, 20))

    def test_order_is_first_side_second_side_root(self):
        joints = (joint(0), joint(1), joint(2), joint(3))
        low, high, root = [0, 5 * P, 5 * P, 5 * P, 5 * P], [0, 5 * P, 35 * P, 5 * P, 5 * P], [0, 20 * P, 20 * P]
        wires = [15 * P, 15 * P]
        self.assertEqual(behind(self.FOUR, shape(0, 1, 2, 3, 4, 5), build(), *joints)[2:],
                         [low, high, root + wires, [-2]])
        # The pair of leaves 0 and 1 is made first, but it's the second side.
        self.assertEqual(behind(self.FOUR, shape(0, 1, 2, 3, 5, 4), build(), *joints)[2:],
                         [high, low, root + wires, [-2]])

    def test_order_of_a_row_of_joints(self):
        # (2 (0 1)): joint 0 is that of 0 and 1.
        calls = LEAVES + (shape(0, 1, 2, 3), build())
        self.assertEqual(behind(calls, joint(0), joint(1)),
                         [[0, 5 * P, 0, 5 * P, 5 * P], [0, 18 * P, 0, 18 * P, 13 * P]])

    def test_a_place_may_be_below_zero(self):
        calls = (leaf(-11, -7), leaf(-10, -9), source(-20, -20), shape(0, 1), build())
        self.assertEqual(last(*calls, joint(0)), [0, -11 * P, -8 * P, P, P])

    def test_places_of_halves(self):
        self.assertEqual(last(leaf(0, 0), leaf(1, 0), plan(), build(), joint(0)), [0, 128, 0, 128, 128])

    def test_all_eight(self):
        pairs = (0, 1, 8, 2, 9, 3, 10, 4, 11, 5, 12, 6, 13, 7)
        calls = [leaf(0, 0)] + [leaf((-1) ** k, 0) for k in range(7)] + [shape(*pairs), build()]
        given = behind(calls, *[joint(k) for k in range(8)])
        self.assertEqual([one[0] for one in given], [0] * 7 + [-2])
        self.assertEqual({len(one) for one in given[:7]}, {5})

    def test_refusals(self):
        self.assertEqual(ask(joint(0), leaf(0, 0), joint(0), plan(), joint(MOST_OF_ALL), build(), joint(0))[::2],
                         [[-16], [-16], [-16], [-2]])
        for k in (2, 3, 8, MOST_OF_ALL):
            self.assertEqual(last(*THREE, joint(k)), [-2], k)


class When(unittest.TestCase):
    def test_refusals(self):
        self.assertEqual(ask(when(0), leaf(0, 0), when(0), plan(), when(1), build(), when(1))[::2],
                         [[-16], [-16], [-16], [-2]])
        for k in (3, 4, 8, MOST_OF_ALL):
            self.assertEqual(last(*THREE, when(k)), [-2], k)

    def test_how_late_a_leaf_is_counts(self):
        calls = (leaf(0, 0, 20), leaf(10, 0, 3), source(0, -2), shape(0, 1), build())
        self.assertEqual(behind(calls, when(0), when(1), ends()), [[22 * P], [22 * P], [22 * P, 22 * P]])
        # Just then, with no wire another one.
        calls += (move(0, 0, 0, 5), move(1, 10, 0, 100000))
        self.assertEqual(behind(calls, when(0), when(1), ends()), [[7 * P], [100019 * P], [7 * P, 100019 * P]])


class Refusals(unittest.TestCase):
    def test_nothing_built(self):
        for calls in ((), (leaf(0, 0),), LEAVES, LEAVES + (plan(),), THREE + (leaf(0, 0),), THREE + (new(),)):
            for call in (sums(), ends(), when(0), joint(0), short(), anew(), ticking(0), ticking(15)):
                self.assertEqual(last(*calls, call), [-16], (calls, call))

    def test_nothing_built_comes_ahead_of_not_there(self):
        for calls in ((), LEAVES, LEAVES + (plan(),)):
            for call in (when(3), when(MOST_OF_ALL), joint(2), joint(MOST_OF_ALL), anew()):
                self.assertEqual(last(*calls, call), [-16], (calls, call))

    def test_ticking_out_of_bounds_comes_first(self):
        for i in (16, 17, 32, MOST_OF_ALL):
            for calls in ((), LEAVES, THREE):
                self.assertEqual(last(*calls, ticking(i)), [-22], (calls, i))

    def test_telling_changes_nothing(self):
        for calls in ((), LEAVES, LEAVES + (plan(),), THREE, MOVED, MOVED + (mend(),), THREE + (drop(0), undo())):
            given = behind(calls, *TELLINGS, *TELLINGS)
            self.assertEqual(given[:len(TELLINGS)], given[len(TELLINGS):])


class Sums(unittest.TestCase):
    def test_power_counts_a_step_once_behind_a_wire(self):
        # The trunk ticks in steps 0 and 15, the leaves' wires in one and in both.
        calls = (leaf(0, 0, 0, 32768), leaf(10, 0, 0, 32769), source(12, 0), shape(0, 1), build())
        self.assertEqual(last(*calls, sums()), [17 * P, (7 * 2 + 5 + 5 * 2) * P, 7 * P])

    def test_power_is_of_the_needs_now(self):
        calls = (leaf(0, 0, 0, 65535), leaf(10, 0, 0, 65535), source(12, 0), shape(0, 1), build())
        given = behind(calls, sums(), move(0, 0, 0, 0, 0), sums(), move(1, 10, 0, 0, 0), sums(), undo(), undo(), sums())
        power = [one[1] for one in given if len(one) == 3]
        self.assertEqual(power, [17 * 16 * P, 12 * 16 * P, 0, 17 * 16 * P])

    def test_power_behind_drop(self):
        calls = (leaf(0, 0, 0, 65535), leaf(10, 0, 0, 1), source(12, 0), shape(0, 1), build(), drop(0))
        self.assertEqual(last(*calls, sums()), [12 * P, 12 * P, 12 * P])

    def test_the_trunk_is_with_what_build_and_retie_answer(self):
        given = behind(THREE[:-1], build(), sums(), source(99, 0), retie(), sums())
        self.assertEqual(given[0][0], given[1][0])
        self.assertEqual(given[3][0], given[4][0])
        self.assertEqual(given[4][2], 81 * P)


class Ticking(unittest.TestCase):
    def test_each_step(self):
        needs = (0b1000000000000001, 0b0000000000000011, 0)
        calls = [leaf(k * 10, 0, 0, needs[k]) for k in range(3)] + [source(12, 0), shape(0, 1, 3, 2), build()]
        # Joint 0 at (5, 0) with 5 and 5, the root at (10, 0) with 5 and 10, which never ticks; a trunk of 2.
        given = behind(calls, sums(), *[ticking(i) for i in range(16)])
        self.assertEqual(given[0], [27 * P, 41 * P, 2 * P])
        self.assertEqual(given[1:], [[17 * P], [12 * P]] + [[0]] * 13 + [[12 * P]])
        self.assertEqual(sum(one[0] for one in given[1:]), given[0][1])


class Short(unittest.TestCase):
    def test_all_wires(self):
        # Each of the four wires and the trunk, one behind another.
        calls = THREE + (source(100, 0), move(0, -1, 0), move(1, 5, 6), move(2, 36, 19))
        self.assertEqual([last(*THREE, *calls[len(THREE):i], short()) for i in range(len(THREE), len(calls) + 1)],
                         [[0], [1], [2], [3], [4]])

    def test_as_long_as_from_end_to_end_is_not_short(self):
        self.assertEqual(last(*THREE, source(16, 2), move(0, 0, 5), move(1, 10, -5), move(2, 36, 18), short()), [0])

    def test_wires_that_became_one_behind_a_drop(self):
        # Leaf 1 of before is 8 from the root, and its wire has 18: it may be 18 away, no farther.
        self.assertEqual(behind(THREE, drop(0), short(), move(0, 0, 0), short(), move(0, 37, 0), short())[1::2],
                         [[0], [0], [1]])
        # The trunk of 15 is from the source to joint 0 then.
        self.assertEqual(behind(THREE, drop(2), short(), source(-10, 15), short(), source(5, -16), short())[1::2],
                         [[0], [0], [1]])

    def test_mended_and_tied_anew_nothing_is(self):
        calls = THREE + (source(100, 0), move(0, -1, 0), move(1, 5, 6), move(2, 36, 19))
        for last_call in (mend(), retie(), build()):
            self.assertEqual(last(*calls, last_call, short()), [0])


class Anew(unittest.TestCase):
    def test_plain(self):
        self.assertEqual(last(*THREE, anew()), [43 * P, 43 * P])
        self.assertEqual(behind(MOVED, anew(), mend(), anew()), [[43 * P, 46 * P], [38 * P], [81 * P, 46 * P]])

    def test_it_is_not_built(self):
        self.assertEqual(behind(MOVED, anew(), anew(), sums(), undo(), anew())[2:],
                         [[43 * P, 60 * P, 2 * P], [6], [43 * P, 43 * P]])

    def test_the_plan_of_now_from_the_source_of_now(self):
        # (0 (1 2)): 13 and 13, then 18 to leaf 0 and 5, and a trunk of 2; from farther away one of 518.
        given = behind(THREE, shape(1, 2, 0, 3), anew(), build(), source(-500, 0), anew(), build())
        self.assertEqual(given, [[0], [43 * P, 51 * P], [51 * P], [0], [51 * P, 567 * P], [567 * P]])

    def test_no_plan(self):
        # No list of calls leads there: the plan goes only with what's built, so the chip is made by hand.
        chip = Chip()
        self.assertEqual(answer_telling(chip, 18, []), [-16])
        chip.leaves = [leaf_at(0, 0, 0, 1)]
        chip.built = built_from(chip.leaves, (), (P, 0))
        self.assertEqual(answer_telling(chip, 18, []), [-2])
        chip.plan = ()
        self.assertEqual(answer_telling(chip, 18, []), [P, 0])

    def test_behind_drop(self):
        self.assertEqual(last(*THREE, drop(0), anew()), [38 * P, 29 * P])
        self.assertEqual(last(*THREE, drop(2), anew()), [25 * P, 25 * P])


if __name__ == "__main__":
    unittest.main()
