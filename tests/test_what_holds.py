"""What holds of all that is built, mended and tied anew, tried out on small chips in every way there is."""

import itertools
import random
import unittest

from clocktree.building import all_wire, mended
from clocktree.changes import Chip, answer_change
from clocktree.places import apart
from tests.asking import P, ask, build, drop, leaf, mend, move, retie, shape, source

SHAPE_OF_FOUR = (shape(0, 1, 4, 2, 5, 3), shape(0, 1, 2, 3, 4, 5), shape(3, 1, 0, 4, 5, 2))


def chip_after(*calls):
    chip = Chip()
    for call in calls:
        numbers = call[2:] if call[0] == 5 else call[1:]
        answer_change(chip, call[0], numbers)
    return chip


def moments(chip):
    """When it's at each leaf's end, counted from the source, the leaf's own lateness with it."""
    built = chip.built
    n = len(chip.leaves)
    at = {2 * n - 2: built.trunk}
    for i in reversed(range(n - 1)):
        for side, length in zip(built.pairs[i], built.wires[i]):
            at[side] = at[n + i] + length
    return [at[k] + chip.leaves[k].late for k in range(n)]


def places_of(chip):
    return [one.place for one in chip.leaves] + list(chip.built.places)


def short_wires(chip):
    """How many wires, without the trunk, are shorter than from end to end."""
    places = places_of(chip)
    short = 0
    for i, pair in enumerate(chip.built.pairs):
        for side, length in zip(pair, chip.built.wires[i]):
            short += length < apart(places[len(chip.leaves) + i], places[side])
    return short


def trunk_lacks(chip):
    return max(0, apart(chip.source, places_of(chip)[-1]) - chip.built.trunk)


def some_chip(chance, n, late):
    calls = [leaf(chance.randint(-9, 9), chance.randint(-9, 9), chance.choice((0, late)), 1) for k in range(n)]
    return calls + [source(chance.randint(-20, 20), chance.randint(-20, 20))]


def least_wire_of_two(leaves, start):
    """The least wire of a pair that is at the same moment, its root tried at each place of a grid of halves."""
    (s0, t0, late0), (s1, t1, late1) = leaves
    found = []
    for s, t in itertools.product(range(-24, 25), repeat=2):
        far0 = max(abs(s - 2 * s0), abs(t - 2 * t0))
        far1 = max(abs(s - 2 * s1), abs(t - 2 * t1))
        time = max(far0 + 2 * late0, far1 + 2 * late1)
        trunk = max(abs(s - 2 * start[0]), abs(t - 2 * start[1]))
        found.append(trunk + 2 * time - 2 * late0 - 2 * late1)
    return min(found) * P // 2


class Built(unittest.TestCase):
    def test_everywhere_at_the_same_moment_and_nothing_short(self):
        chance = random.Random(3)
        for turn in range(300):
            calls = some_chip(chance, 4, chance.choice((0, 3, 30)))
            chip = chip_after(*calls, chance.choice(SHAPE_OF_FOUR), build())
            self.assertEqual(len(set(moments(chip))), 1, calls)
            self.assertEqual((short_wires(chip), trunk_lacks(chip)), (0, 0), calls)

    def test_no_pair_has_less_wire(self):
        chance = random.Random(4)
        for turn in range(40):
            leaves = [(chance.randint(-6, 6), chance.randint(-6, 6), chance.choice((0, 3, 15))) for k in (0, 1)]
            start = (chance.randint(-9, 9), chance.randint(-9, 9))
            told = ask(*[leaf(*one) for one in leaves], source(*start), shape(0, 1), build())
            self.assertEqual(told[-1], [least_wire_of_two(leaves, start)], (leaves, start))


class Mended(unittest.TestCase):
    def test_everywhere_at_the_same_moment_and_nothing_short(self):
        chance = random.Random(5)
        for turn in range(300):
            calls = some_chip(chance, 4, chance.choice((0, 3, 30)))
            calls += [chance.choice(SHAPE_OF_FOUR), build()]
            for count in range(3):
                calls += [move(chance.randrange(4), chance.randint(-9, 9), chance.randint(-9, 9), chance.randint(0, 9))]
            calls += [source(chance.randint(-9, 9), 3)]
            for last_call in (mend(), retie()):
                chip = chip_after(*calls, last_call)
                self.assertEqual(len(set(moments(chip))), 1, calls)
                self.assertEqual((short_wires(chip), trunk_lacks(chip)), (0, 0), calls)

    def test_no_way_to_make_wires_longer_takes_less(self):
        chance = random.Random(6)
        for turn in range(25):
            calls = [leaf(2 * chance.randint(-2, 2), 2 * chance.randint(-2, 2)) for k in range(3)]
            calls += [shape(0, 1, 3, 2), build()]
            k = chance.randrange(3)
            calls += [move(k, 2 * chance.randint(-2, 2), 2 * chance.randint(-2, 2), chance.randint(0, 2))]
            chip = chip_after(*calls)
            more = all_wire(mended(chip.built, chip.leaves, chip.source)) - all_wire(chip.built)
            self.assertEqual(more, self.least_more(chip), calls)

    def least_more(self, chip):
        """Each of the four wires tried longer by 0 to 9 units; the trunk needs nothing of the others."""
        built = chip.built
        before = built.wires
        found = []
        for a, b, c, d in itertools.product(range(0, 10 * P, P), repeat=4):
            built.wires = ((before[0][0] + a, before[0][1] + b), (before[1][0] + c, before[1][1] + d))
            if a + b + c + d < min(found, default=99 * P) and len(set(moments(chip))) == 1 and short_wires(chip) == 0:
                found.append(a + b + c + d)
        built.wires = before
        return min(found) + trunk_lacks(chip)


class Dropped(unittest.TestCase):
    def test_the_others_moments_stay(self):
        chance = random.Random(7)
        for turn in range(200):
            calls = some_chip(chance, 4, chance.choice((0, 3, 30))) + [chance.choice(SHAPE_OF_FOUR), build()]
            # Not at the same moment any more, so that each has a moment of its own to keep.
            calls += [move(k, 0, 0, chance.randint(0, 50)) for k in range(4)]
            kept = moments(chip_after(*calls))
            for n in (4, 3, 2):
                k = chance.randrange(n)
                calls += [drop(k)]
                kept = kept[:k] + kept[k + 1:]
                self.assertEqual(moments(chip_after(*calls)), kept, calls)

    def test_joints_that_stay_stay_where_they_are(self):
        four = (leaf(0, 0), leaf(10, 0), leaf(0, 40), leaf(10, 40), source(20, 20), shape(0, 1, 2, 3, 4, 5), build())
        before = chip_after(*four).built
        self.assertEqual(before.places, ((5 * P, 5 * P), (5 * P, 35 * P), (20 * P, 20 * P)))
        after = chip_after(*four, drop(0)).built
        self.assertEqual(after.places, before.places[1:])
        self.assertEqual(after.pairs, ((1, 2), (0, 3)))
        self.assertEqual(after.wires, ((5 * P, 5 * P), (20 * P, 15 * P)))
        after = chip_after(*four, drop(3)).built
        self.assertEqual(after.places, (before.places[0], before.places[2]))
        self.assertEqual(after.pairs, ((0, 1), (3, 2)))
        self.assertEqual(after.wires, ((5 * P, 5 * P), (15 * P, 20 * P)))


if __name__ == "__main__":
    unittest.main()
