"""What holds of all that is built, mended and tied anew, tried out on small chips in every way there is."""

import itertools
import random
import unittest

from clocktree.building import all_wire, mended
from clocktree.changes import answer_change
from clocktree.chip import Chip
from clocktree.places import apart
from tests.asking import (
    P, ask, behind, build, drop, ends, last, leaf, mend, move, plan, retie, shape, short, source, sums, told, when)
from tests.reference import Reference, all_shapes

SHAPE_OF_FOUR = (shape(0, 1, 4, 2, 5, 3), shape(0, 1, 2, 3, 4, 5), shape(3, 1, 0, 4, 5, 2))


def chip_after(*calls):
    chip = Chip()
    for call in calls:
        numbers = call[2:] if call[0] == 5 else call[1:]
        answer_change(chip, call[0], numbers)
    return chip


def moments(chip):
    """When it's at each leaf's end, counted from the source, the leaf's own lateness with it."""
    built = chip.built
    n = len(chip.leaves)
    at = {2 * n - 2: built.trunk}
    for i in reversed(range(n - 1)):
        for side, length in zip(built.pairs[i], built.wires[i]):
            at[side] = at[n + i] + length
    return [at[k] + chip.leaves[k].late for k in range(n)]


def places_of(chip):
    return [one.place for one in chip.leaves] + list(chip.built.places)


def short_wires(chip):
    """How many wires, without the trunk, are shorter than from end to end."""
    places = places_of(chip)
    short = 0
    for i, pair in enumerate(chip.built.pairs):
        for side, length in zip(pair, chip.built.wires[i]):
            short += length < apart(places[len(chip.leaves) + i], places[side])
    return short


def trunk_lacks(chip):
    return max(0, apart(chip.source, places_of(chip)[-1]) - chip.built.trunk)


def some_chip(chance, n, late):
    calls = [leaf(chance.randint(-9, 9), chance.randint(-9, 9), chance.choice((0, late)), 1) for k in range(n)]
    return calls + [source(chance.randint(-20, 20), chance.randint(-20, 20))]


def least_wire_of_two(leaves, start):
    """The least wire of a pair that is at the same moment, its root tried at each place of a grid of halves."""
    (s0, t0, late0), (s1, t1, late1) = leaves
    found = []
    for s, t in itertools.product(range(-24, 25), repeat=2):
        far0 = max(abs(s - 2 * s0), abs(t - 2 * t0))
        far1 = max(abs(s - 2 * s1), abs(t - 2 * t1))
        time = max(far0 + 2 * late0, far1 + 2 * late1)
        trunk = max(abs(s - 2 * start[0]), abs(t - 2 * start[1]))
        found.append(trunk + 2 * time - 2 * late0 - 2 * late1)
    return min(found) * P // 2


def least_of_three(leaves, start):
    """The least wire, power and moment of a clock of the shape ((0 1) 2), its joints tried at each place of a grid."""
    far = [{place: max(abs(place[0] - s), abs(place[1] - t)) for place in GRID} for s, t in
           [start] + [one[:2] for one in leaves]]
    late = [one[2] for one in leaves]
    steps = [bin(need).count("1") for need in (
        leaves[0][3], leaves[1][3], leaves[2][3], leaves[0][3] | leaves[1][3],
        leaves[0][3] | leaves[1][3] | leaves[2][3])]
    found = []
    for low in GRID:
        time = max(late[0] + far[1][low], late[1] + far[2][low])
        own = 2 * time - late[0] - late[1]
        own_power = (time - late[0]) * steps[0] + (time - late[1]) * steps[1]
        for root in GRID:
            between = max(abs(root[0] - low[0]), abs(root[1] - low[1]))
            end = max(time + between, late[2] + far[3][root])
            trunk = far[0][root]
            found.append((
                own + 2 * end - time - late[2] + trunk,
                own_power + (end - time) * steps[3] + (end - late[2]) * steps[2] + trunk * steps[4],
                end + trunk))
    return [min(one[i] for one in found) * P for i in range(3)]


def all_moments(calls, n):
    return [one[0] for one in behind(calls, *[when(k) for k in range(n)])]


def some_shape(chance, n):
    there = list(range(n))
    pairs = []
    for made in range(n, 2 * n - 1):
        pairs += [there.pop(chance.randrange(len(there))), there.pop(chance.randrange(len(there)))]
        there.append(made)
    return shape(*pairs)


GRID = tuple(itertools.product(range(-2, 7), repeat=2))


class Built(unittest.TestCase):
    def test_no_clock_of_three_has_less_wire_power_or_time(self):
        chance = random.Random(8)
        for turn in range(30):
            # Whole numbers of four, so that the joints of the best clocks are on the grid.
            leaves = [(chance.choice((0, 4)), chance.choice((0, 4)), chance.choice((0, 0, 4)), chance.randint(0, 7))
                      for k in range(3)]
            start = (chance.randint(-6, 10), chance.randint(-6, 10))
            calls = [leaf(*one) for one in leaves] + [source(*start), shape(0, 1, 3, 2), build()]
            (wire, power, trunk), (first, end) = behind(calls, sums(), ends())
            self.assertEqual([wire, power, end], least_of_three(leaves, start), calls)
            self.assertEqual(first, end)

    def test_everywhere_at_the_same_moment_and_nothing_short(self):
        chance = random.Random(3)
        for turn in range(300):
            calls = some_chip(chance, 4, chance.choice((0, 3, 30)))
            chip = chip_after(*calls, chance.choice(SHAPE_OF_FOUR), build())
            self.assertEqual(len(set(moments(chip))), 1, calls)
            self.assertEqual((short_wires(chip), trunk_lacks(chip)), (0, 0), calls)

    def test_no_pair_has_less_wire(self):
        chance = random.Random(4)
        for turn in range(40):
            leaves = [(chance.randint(-6, 6), chance.randint(-6, 6), chance.choice((0, 3, 15))) for k in (0, 1)]
            start = (chance.randint(-9, 9), chance.randint(-9, 9))
            told = ask(*[leaf(*one) for one in leaves], source(*start), shape(0, 1), build())
            self.assertEqual(told[-1], [least_wire_of_two(leaves, start)], (leaves, start))


class Mended(unittest.TestCase):
    def test_everywhere_at_the_same_moment_and_nothing_short(self):
        chance = random.Random(5)
        for turn in range(300):
            calls = some_chip(chance, 4, chance.choice((0, 3, 30)))
            calls += [chance.choice(SHAPE_OF_FOUR), build()]
            for count in range(3):
                calls += [move(chance.randrange(4), chance.randint(-9, 9), chance.randint(-9, 9), chance.randint(0, 9))]
            calls += [source(chance.randint(-9, 9), 3)]
            for last_call in (mend(), retie()):
                chip = chip_after(*calls, last_call)
                self.assertEqual(len(set(moments(chip))), 1, calls)
                self.assertEqual((short_wires(chip), trunk_lacks(chip)), (0, 0), calls)

    def test_no_way_to_make_wires_longer_takes_less(self):
        chance = random.Random(6)
        for turn in range(25):
            calls = [leaf(2 * chance.randint(-2, 2), 2 * chance.randint(-2, 2)) for k in range(3)]
            calls += [shape(0, 1, 3, 2), build()]
            k = chance.randrange(3)
            calls += [move(k, 2 * chance.randint(-2, 2), 2 * chance.randint(-2, 2), chance.randint(0, 2))]
            chip = chip_after(*calls)
            more = all_wire(mended(chip.built, chip.leaves, chip.source)) - all_wire(chip.built)
            self.assertEqual(more, self.least_more(chip), calls)

    def test_no_way_to_tie_it_anew_takes_less(self):
        chance = random.Random(9)
        for turn in range(20):
            # Whole numbers of four, so that all joints and lengths are whole.
            calls = [leaf(4 * chance.randint(-1, 1), 4 * chance.randint(-1, 1)) for k in range(3)]
            calls += [shape(0, 1, 3, 2), build()]
            calls += [move(k, 4 * chance.randint(0, 1), 4 * chance.randint(0, 1), chance.randint(0, 2)) for k in (0, 1)]
            chip = chip_after(*calls)
            places = places_of(chip)
            chip.built.wires = tuple(
                tuple(apart(places[3 + i], places[side]) for side in pair) for i, pair in enumerate(chip.built.pairs))
            chip.built.trunk = 0
            self.assertEqual(last(*calls, retie()), [all_wire(chip.built) + self.least_more(chip, 14)], calls)

    def least_more(self, chip, most=10):
        """Each of the four wires tried longer by fewer units than most; the trunk needs nothing of the others."""
        built = chip.built
        before = built.wires
        found = []
        for a, b, c, d in itertools.product(range(0, most * P, P), repeat=4):
            built.wires = ((before[0][0] + a, before[0][1] + b), (before[1][0] + c, before[1][1] + d))
            if a + b + c + d < min(found, default=99 * P) and len(set(moments(chip))) == 1 and short_wires(chip) == 0:
                found.append(a + b + c + d)
        built.wires = before
        return min(found) + trunk_lacks(chip)


class AsTold(unittest.TestCase):
    def test_built_mended_and_tied_anew_it_is_everywhere_at_the_same_moment(self):
        chance = random.Random(10)
        for turn in range(300):
            n = chance.randint(1, 8)
            calls = some_chip(chance, n, chance.choice((0, 3, 30))) + [some_shape(chance, n), build()]
            self.same_moment(calls, n)
            for count in range(3):
                calls += [move(chance.randrange(n), chance.randint(-9, 9), chance.randint(-9, 9), chance.randint(0, 9))]
            calls += [source(chance.randint(-9, 9), chance.randint(-9, 9))]
            if n > 1 and chance.random() < 0.5:
                calls += [drop(chance.randrange(n))]
                n -= 1
            for last_call in (mend(), retie(), build()):
                self.same_moment(calls + [last_call], n)

    def same_moment(self, calls, n):
        given = behind(calls, short(), ends())
        self.assertEqual(given[0], [0], calls)
        self.assertEqual(given[1], all_moments(calls, n)[:1] * 2, calls)
        self.assertEqual(len(set(all_moments(calls, n))), 1, calls)

    def test_a_leaf_that_is_dropped_leaves_the_others_moments(self):
        chance = random.Random(11)
        for turn in range(200):
            n = chance.randint(2, 8)
            calls = some_chip(chance, n, chance.choice((0, 3, 30))) + [some_shape(chance, n), build()]
            calls += [move(k, chance.randint(-9, 9), 0, chance.randint(0, 50)) for k in range(n)]
            calls += [source(chance.randint(-9, 9), 0)]
            kept = all_moments(calls, n)
            while n > 1:
                k = chance.randrange(n)
                n -= 1
                calls += [drop(k)]
                kept = kept[:k] + kept[k + 1:]
                self.assertEqual(all_moments(calls, n), kept, calls)
                self.assertEqual(last(*calls, ends()), [min(kept), max(kept)], calls)

    def test_over_all_shapes_the_plan_has_the_least_behind_its_trunk(self):
        chance = random.Random(12)
        for turn in range(25):
            n = chance.randint(1, 4)
            calls = [leaf(chance.randint(-9, 9), chance.randint(-9, 9), chance.choice((0, 5)), chance.randint(0, 7))
                     for k in range(n)]
            # Each shape is built and looked at through the calls alone, in the order of all shapes.
            shapes = [pairs_of(node, n) for node in all_shapes(list(range(n)))]
            comes_to = [self.behind_its_trunk(calls + [shape(*pairs)]) for pairs in shapes]
            for by, rank in ((0, lambda one: (one[0], one[1])), (1, lambda one: (one[2], one[0]))):
                best = min(range(len(shapes)), key=lambda i: rank(comes_to[i]))
                self.assertEqual(behind(calls, plan(by), told()),
                                 [comes_to[best], [2 * n - 2] + shapes[best]], (calls, by))

    def behind_its_trunk(self, calls):
        """Wire, time, power without the trunk."""
        (wire, power, trunk), (first, end) = behind(calls + [build()], sums(), ends())
        n = len([call for call in calls if call[0] == 2])
        needs = 0
        for call in calls[:n]:
            needs |= call[4]
        return [wire - trunk, end - trunk, power - trunk * bin(needs).count("1")]


def pairs_of(node, n):
    kept = Reference()
    kept.leaf_list = [None] * n
    kept.planned = node
    return kept.do_told()[1:]


class Dropped(unittest.TestCase):
    def test_the_others_moments_stay(self):
        chance = random.Random(7)
        for turn in range(200):
            calls = some_chip(chance, 4, chance.choice((0, 3, 30))) + [chance.choice(SHAPE_OF_FOUR), build()]
            # Not at the same moment any more, so that each has a moment of its own to keep.
            calls += [move(k, 0, 0, chance.randint(0, 50)) for k in range(4)]
            kept = moments(chip_after(*calls))
            for n in (4, 3, 2):
                k = chance.randrange(n)
                calls += [drop(k)]
                kept = kept[:k] + kept[k + 1:]
                self.assertEqual(moments(chip_after(*calls)), kept, calls)

    def test_joints_that_stay_stay_where_they_are(self):
        four = (leaf(0, 0), leaf(10, 0), leaf(0, 40), leaf(10, 40), source(20, 20), shape(0, 1, 2, 3, 4, 5), build())
        before = chip_after(*four).built
        self.assertEqual(before.places, ((5 * P, 5 * P), (5 * P, 35 * P), (20 * P, 20 * P)))
        after = chip_after(*four, drop(0)).built
        self.assertEqual(after.places, before.places[1:])
        self.assertEqual(after.pairs, ((1, 2), (0, 3)))
        self.assertEqual(after.wires, ((5 * P, 5 * P), (20 * P, 15 * P)))
        after = chip_after(*four, drop(3)).built
        self.assertEqual(after.places, (before.places[0], before.places[2]))
        self.assertEqual(after.pairs, ((0, 1), (3, 2)))
        self.assertEqual(after.wires, ((5 * P, 5 * P), (15 * P, 20 * P)))


if __name__ == "__main__":
    unittest.main()
