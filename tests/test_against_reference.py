"""Long mixed lists of calls, held against the document's words written a second time."""

import random
import unittest

from clocktree.changes import leaf_at
from clocktree.clock import answers
from clocktree.outcomes import all_outcomes
from tests.asking import apart, ask, flat
from tests.reference import Reference, all_shapes, reference_answers


def some_place(chance, span):
    return [chance.randint(-span, span), chance.randint(-span, span)]


def some_leaf(chance, span):
    late = chance.choice((0, 0, chance.randint(0, span)))
    numbers = some_place(chance, span) + [late, chance.choice((0, 1, 3, 65535, chance.randint(0, 65535)))]
    if chance.random() < 0.03:
        numbers[chance.randrange(4)] = 100001 + 65535
    return numbers


def some_pairs(chance, n):
    """A shape's pairs, now and then spoilt."""
    there = list(range(n))
    pairs = []
    for made in range(n, 2 * n - 1):
        for side in (0, 1):
            pairs.append(there.pop(chance.randrange(len(there))))
        there.append(made)
    if pairs and chance.random() < 0.1:
        pairs[chance.randrange(len(pairs))] = chance.randint(0, 2 * n)
    if chance.random() < 0.05:
        pairs = pairs[:-1] if chance.random() < 0.5 else pairs + [0]
    return [5, len(pairs)] + pairs


OFTEN = (1, 3, 3, 3, 4, 5, 6, 7, 7, 8, 8, 9, 10, 10, 10, 11, 11)
TELLING = (12, 13, 14, 15, 16, 17, 18, 19)


def some_call(chance, n, span, most):
    """One call, where there are so many leaves."""
    kind = chance.choice(OFTEN + TELLING + TELLING)
    if chance.random() < 0.005:
        return [0]
    # Few leaves come once there are some: each takes the plan and what is built with it.
    if kind < 10 and chance.random() < (0.7 if n < 2 else 0.04):
        kind = 2 if n < most else 3
    if kind == 2:
        return [2] + some_leaf(chance, span)
    if kind == 1:
        return [1] + some_place(chance, chance.choice((span, span, span, 200000)))
    if kind == 3:
        return [3, chance.randint(0, n)] + some_leaf(chance, span)
    if kind == 5:
        return some_pairs(chance, max(n, 1))
    if kind == 6:
        return [6, chance.choice((0, 1, 0, 1, 0, 1, 2))]
    if kind in (4, 15, 16):
        return [kind, chance.randint(0, n)]
    if kind == 19:
        return [19, chance.randint(0, 16)]
    return [kind]


def some_calls(chance):
    """A mixed list of calls, and what the reference answers to them."""
    kept = Reference()
    span = chance.choice((2, 10, 1000, 100000))
    most = chance.choice((2, 3, 4, 5, 8, 8, 9))
    calls = []
    if chance.random() < 0.8:
        n = chance.randint(1, min(most, 8))
        calls = [[2] + some_leaf(chance, span) for k in range(n)] + [some_pairs(chance, n), [7]]
    told = [kept.answer(call) for call in calls]
    for count in range(len(calls), chance.choice((20, 60, 150, 150))):
        n = len(kept.leaf_list)
        call = some_call(chance, n, span, most)
        # Where nothing is built there is little to tell: then a plan and a build are likelier.
        if kept.tree is None and n > 0 and chance.random() < 0.3:
            call = some_pairs(chance, n) if kept.planned is None else [7]
        calls.append(call)
        told.append(kept.answer(call))
    return calls, told


class AgainstReference(unittest.TestCase):
    def test_mixed_calls(self):
        chance = random.Random(20)
        met = set()
        for turn in range(200):
            calls, told = some_calls(chance)
            handed_in = flat(calls)
            copy = list(handed_in)
            self.assertEqual(apart(answers(handed_in)), told, calls)
            self.assertEqual(handed_in, copy)
            met.update((call[0], answer[0] < 0) for call, answer in zip(calls, told))
        # Each of the twenty was answered, and each that can be was refused.
        self.assertEqual({kind for kind, refused in met if not refused}, set(range(20)))
        self.assertEqual({kind for kind, refused in met if refused}, set(range(1, 20)))

    def test_drops_of_eight(self):
        chance = random.Random(21)
        for turn in range(150):
            calls = [[2] + some_leaf(chance, 50) for k in range(8)]
            calls += [some_pairs(chance, 8), [1] + some_place(chance, 50), [7]]
            calls += [some_pairs(chance, 8)]
            for n in range(8, 0, -1):
                calls += [[4, chance.randrange(n)], [12], [13], [14], [8], [1] + some_place(chance, 90), [8]]
                calls += [[16, chance.randrange(n)], [10], [17], [11], [15, chance.randrange(n)]]
                if chance.random() < 0.2:
                    calls += [chance.choice(([7], [9]))]
                if chance.random() < 0.2:
                    calls += [[10], [10], [10], [10], [12], [13], [14], [11], [11], [11], [11]]
            self.assertEqual(ask(*calls), reference_answers(calls), calls)

    def test_plans_of_six_and_fewer(self):
        chance = random.Random(22)
        for n in (1, 2, 3, 4, 5, 6):
            for turn in range(4):
                span = chance.choice((1, 3, 100))
                calls = [[2] + some_leaf(chance, span) for k in range(n)]
                calls += [[6, 0], [12], [7], [13], [6, 1], [12], [18], [7], [13]]
                self.assertEqual(ask(*calls), reference_answers(calls), calls)

    def test_shapes_in_order(self):
        for n, count in ((1, 1), (2, 1), (3, 3), (4, 15), (5, 105), (6, 945)):
            leaves = [leaf_at(k, 0, 0, 1) for k in range(n)]
            ours = [outcome.tree for outcome in all_outcomes(tuple(range(n)), leaves, {})]
            theirs = [as_tuples(node) for node in all_shapes(list(range(n)))]
            self.assertEqual(len(ours), count)
            self.assertEqual(ours, theirs)


def as_tuples(node):
    if node.sides is None:
        return node.leaf
    return (as_tuples(node.sides[0]), as_tuples(node.sides[1]))


if __name__ == "__main__":
    unittest.main()
