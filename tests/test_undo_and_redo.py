"""Point 7: undo and redo; and what points 1 to 6 are once they are taken back."""

import unittest

from tests.asking import (
    P, TELLINGS, anew, ask, behind, build, drop, ends, last, leaf, mend, move, new, plan, redo, retie, shape, source,
    sums, told, undo, when)

FOUR = (leaf(0, 0, 0, 1), leaf(10, 4, 3, 3), leaf(36, -8, 0, 4), leaf(5, 30, 1, 24), source(20, 3))
# The plan is another one than what's built; moved, that's not right any more.
BUILT = FOUR + (shape(0, 1, 4, 2, 5, 3), build(), shape(2, 1, 0, 3, 5, 4))
MOVED = BUILT + (move(1, 50, 4, 9, 6), source(-3, 3))

# One of each kind, and of drop and move one of each leaf.
CHANGES = (source(7, 7), leaf(9, 9, 9, 9), shape(3, 2, 1, 4, 0, 5), plan(0), plan(1), build(), mend(), retie(),
           *[drop(k) for k in range(4)], *[move(k, 40, 40, 40, 40) for k in range(4)])

# All that is told; then all that can be seen of the leaves, the source and the plan once it's built anew.
ALL = TELLINGS + (build(), sums(), plan(0), build(), *TELLINGS)


def seen(*calls):
    return behind(calls, *ALL)


def changes_behind(calls):
    """Those that aren't refused there; a refused one is no change, and undo would take back another."""
    return [change for change in CHANGES if last(*calls, change)[0] >= 0]


class EachChange(unittest.TestCase):
    def test_none_is_refused(self):
        self.assertEqual(changes_behind(BUILT), list(CHANGES))
        self.assertEqual(changes_behind(MOVED), list(CHANGES))

    def test_all_is_as_before(self):
        for calls in (FOUR, BUILT, MOVED, MOVED + (mend(),), BUILT + (drop(1), leaf(3, 3)), FOUR + (plan(1),)):
            for change in changes_behind(calls):
                self.assertEqual(seen(*calls, change, undo()), seen(*calls), (calls, change))

    def test_done_again_it_is_as_it_was(self):
        for calls in (FOUR, BUILT, MOVED):
            for change in changes_behind(calls):
                self.assertEqual(seen(*calls, change, undo(), redo()), seen(*calls, change), (calls, change))

    def test_each_is_one_change(self):
        for change in CHANGES:
            given = behind(MOVED, change, undo(), redo(), undo())
            self.assertEqual(given[1:], [[len(MOVED)], [0], [len(MOVED)]], change)

    def test_a_change_to_what_it_is_already_is_one(self):
        for change in (source(20, 3), move(0, 0, 0, 0, 1), shape(2, 1, 0, 3, 5, 4), build(), mend(), retie()):
            given = behind(BUILT, change, change, undo(), undo())
            self.assertEqual(given[2:], [[len(BUILT) + 1], [len(BUILT)]], change)

    def test_all_of_them_one_behind_another(self):
        calls = MOVED + (mend(), drop(0), build(), drop(1), retie(), move(0, 1, 1), drop(0), drop(0), leaf(5, 5))
        self.assertEqual(len(calls), 19)
        for count in range(1, 20):
            self.assertEqual(seen(*calls, *[undo()] * count), seen(*calls[:-count]), count)
            self.assertEqual(seen(*calls, *[undo()] * 19, *[redo()] * count), seen(*calls[:count]), count)

    def test_undo_behind_a_drop(self):
        # The joint that went with the leaf is there again, with its place and its wires, and so is the plan's.
        given = behind(BUILT, told(), *TELLINGS, drop(2), drop(2), undo(), undo(), told(), *TELLINGS)
        half = 1 + len(TELLINGS)
        self.assertEqual(given[:half], given[half + 4:])
        self.assertEqual(given[half:half + 4], [[3], [2], [len(BUILT) + 1], [len(BUILT)]])

    def test_drop_of_the_last_leaf(self):
        one = (leaf(10, 0, 2, 3), plan(), build())
        self.assertEqual(behind(one, drop(0), sums(), undo(), sums(), told(), when(0), redo(), sums(), told(), drop(0)),
                         [[0], [-16], [3], [10 * P, 20 * P, 10 * P], [0], [12 * P], [0], [-16], [-16], [-2]])

    def test_a_leaf_gives_back_plan_and_built(self):
        given = behind(BUILT, leaf(1, 1), told(), sums(), undo(), told(), ends(), leaf(2, 2))
        self.assertEqual(given[:4], [[4], [-16], [-16], [len(BUILT)]])
        self.assertEqual(given[4:6], behind(BUILT, told(), ends()))
        self.assertEqual(given[6], [4])

    def test_the_eighth_leaf(self):
        self.assertEqual(ask(*[leaf(0, 0)] * 8, undo(), leaf(0, 0), leaf(0, 0), undo(), redo(), leaf(0, 0))[8:],
                         [[7], [7], [-28], [7], [0], [-28]])


class Counts(unittest.TestCase):
    def test_nothing_at_the_beginning(self):
        self.assertEqual(ask(undo(), redo(), undo(), redo()), [[-6]] * 4)

    def test_how_many_times_more(self):
        three = (source(1, 0), source(2, 0), source(3, 0))
        self.assertEqual(behind(three, redo(), undo(), undo(), undo(), undo(), redo(), redo(), redo(), redo()),
                         [[-6], [2], [1], [0], [-6], [2], [1], [0], [-6]])

    def test_to_and_fro(self):
        three = (leaf(0, 0), plan(), source(3, 0))
        given = behind(three, undo(), redo(), undo(), undo(), redo(), undo(), redo(), redo(), undo(), build())
        self.assertEqual(given, [[2], [0], [2], [1], [1], [1], [1], [0], [2], [0]])
        self.assertEqual(behind(three, undo(), redo(), undo(), redo(), build())[-1], [3 * P])

    def test_a_refused_one_changes_nothing(self):
        for calls in (BUILT, MOVED):
            self.assertEqual(seen(*calls, redo()), seen(*calls))
            self.assertEqual(seen(*calls, new(), undo(), redo()), seen())

    def test_behind_new_there_is_nothing(self):
        self.assertEqual(behind(BUILT, new(), undo(), redo()), [[0], [-6], [-6]])
        self.assertEqual(behind(BUILT, undo(), undo(), new(), undo(), redo()), [[len(BUILT) - 1], [len(BUILT) - 2],
                                                                               [0], [-6], [-6]])
        self.assertEqual(ask(new(), undo(), redo()), [[0], [-6], [-6]])
        # And new is none itself.
        self.assertEqual(behind(BUILT, new(), leaf(1, 1), undo(), undo(), redo(), redo()),
                         [[0], [0], [0], [-6], [0], [-6]])

    def test_nothing_is_there_behind_new_and_undo(self):
        self.assertEqual(seen(*BUILT, new(), source(9, 9), undo()), seen())


class AtMostTwenty(unittest.TestCase):
    BEGIN = (leaf(0, 0), plan(), build())

    def moved(self, count):
        return self.BEGIN + tuple(source(k, 0) for k in range(1, count + 1))

    def test_nineteen_twenty_twenty_one(self):
        for changes, taken in ((19, 19), (20, 20), (21, 20), (22, 20), (45, 20)):
            calls = [source(k, 0) for k in range(changes)]
            given = behind(calls, *[undo()] * 22)
            self.assertEqual(given, [[k] for k in range(taken - 1, -1, -1)] + [[-6]] * (22 - taken), changes)

    def test_it_is_the_last_twenty(self):
        for changes in (20, 21, 30):
            given = behind(self.moved(changes), *[undo()] * 25, build())
            self.assertEqual(given[-1], [(changes - 20) * P], changes)

    def test_all_twenty_are_done_again(self):
        given = behind(self.moved(30), *[undo()] * 20, *[redo()] * 21, anew(), *[undo()] * 21, anew())
        counts = [[k] for k in range(19, -1, -1)] + [[-6]]
        self.assertEqual(given, counts[:20] + counts + [[0, 30 * P]] + counts + [[0, 10 * P]])

    def test_what_is_too_old_does_not_come_back(self):
        # Of 30 the last 20; 5 of them taken back, 3 more made: 18.
        given = behind(self.moved(30), *[undo()] * 5, *[source(k, 0) for k in (91, 92, 93)], *[undo()] * 19, build())
        self.assertEqual(given[8:], [[k] for k in range(17, -1, -1)] + [[-6], [10 * P]])

    def test_twenty_taken_back_and_others_made(self):
        given = behind(self.moved(30), *[undo()] * 20, *[source(k, 0) for k in range(50, 75)], *[undo()] * 21, build())
        self.assertEqual(given[45:], [[k] for k in range(19, -1, -1)] + [[-6], [54 * P]])

    def test_what_is_refused_or_told_does_not_count(self):
        calls = self.moved(20) + (move(7, 0, 0), plan(2), source(100001, 0), anew(), sums(), redo()) * 5
        self.assertEqual(behind(calls, *[undo()] * 21, build())[19:], [[0], [-6], [0]])


class WhatIsNoChange(unittest.TestCase):
    def no_changes(self):
        return TELLINGS + (source(100001, 0), source(0, -100001), leaf(0, 0, 100001), leaf(0, 0, 0, 65536),
                           move(9, 0, 0), move(0, 100001, 0), drop(9), shape(0, 0), shape(), plan(2))

    def test_it_is_not_taken_back(self):
        for call in self.no_changes():
            self.assertEqual(behind(MOVED, call, undo())[1:], [[len(MOVED) - 1]], call)
            self.assertEqual(seen(*MOVED, call, undo()), seen(*MOVED[:-1]), call)

    def test_it_leaves_what_can_be_done_again(self):
        for call in self.no_changes():
            self.assertEqual(behind(MOVED, undo(), undo(), call, redo(), redo(), redo())[3:], [[1], [0], [-6]], call)
            self.assertEqual(seen(*MOVED, undo(), undo(), call, redo(), redo()), seen(*MOVED), call)

    def test_refused_for_want_of_something(self):
        for calls, refused in (((leaf(0, 0),), (build(), mend(), retie())),
                               ((source(1, 1),), (shape(), plan(), drop(0))),
                               ((leaf(0, 0),) * 8, (leaf(0, 0), plan(), plan(1)))):
            for call in refused:
                given = behind(calls, call, undo())
                self.assertLess(given[0][0], 0)
                self.assertEqual(given[1], [len(calls) - 1], call)

    def test_refused_between_undo_and_redo(self):
        given = behind((leaf(0, 0), plan()), undo(), build(), mend(), retie(), redo(), redo(), build())
        self.assertEqual(given, [[1], [-16], [-16], [-16], [0], [-6], [0]])


class FurtherChange(unittest.TestCase):
    def test_redo_has_nothing_left_behind_each_kind(self):
        for change in CHANGES:
            given = behind(MOVED, undo(), undo(), change, redo(), undo(), redo(), redo())
            self.assertGreaterEqual(given[2][0], 0)
            self.assertEqual(given[3:], [[-6], [len(MOVED) - 2], [0], [-6]], change)

    def test_what_was_taken_back_is_gone(self):
        calls = (leaf(0, 0), plan(), source(1, 0), source(2, 0))
        given = behind(calls, undo(), undo(), source(9, 0), redo(), undo(), redo(), redo(), build())
        self.assertEqual(given, [[3], [2], [0], [-6], [2], [0], [-6], [9 * P]])

    def test_some_done_again_before_it(self):
        calls = (leaf(0, 0), plan(), source(1, 0), source(2, 0))
        given = behind(calls, undo(), undo(), redo(), source(9, 0), redo(), undo(), anew(), build())
        self.assertEqual(given, [[3], [2], [1], [0], [-6], [3], [-16], [P]])


if __name__ == "__main__":
    unittest.main()
