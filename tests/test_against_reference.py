"""Long mixed lists of calls, held against the document's words written a second time."""

import random
import unittest

from clocktree.changes import leaf_at
from clocktree.outcomes import all_outcomes
from tests.asking import ask
from tests.reference import all_shapes, reference_answers


def some_place(chance, span):
    return [chance.randint(-span, span), chance.randint(-span, span)]


def some_leaf(chance, span):
    late = chance.choice((0, 0, chance.randint(0, span)))
    return some_place(chance, span) + [late, chance.choice((0, 1, 3, 65535, chance.randint(0, 65535)))]


def some_pairs(chance, n):
    """A shape's pairs, now and then spoilt."""
    there = list(range(n))
    pairs = []
    for made in range(n, 2 * n - 1):
        for side in (0, 1):
            pairs.append(there.pop(chance.randrange(len(there))))
        there.append(made)
    if pairs and chance.random() < 0.1:
        pairs[chance.randrange(len(pairs))] = chance.randint(0, 2 * n)
    if chance.random() < 0.05:
        pairs = pairs[:-1] if chance.random() < 0.5 else pairs + [0]
    return [5, len(pairs)] + pairs


def some_call(chance, n, span, most):
    """One call, and how many leaves there are then."""
    kind = chance.choice((1, 2, 2, 3, 3, 3, 4, 5, 5, 6, 7, 7, 7, 8, 8, 8, 9))
    if n < 2 or (kind == 2 and n >= most):
        kind = 2 if n < most else 3
    if kind == 2:
        return [2] + some_leaf(chance, span), min(n + 1, 8)
    if kind == 4:
        k = chance.randint(0, n)
        return [4, k], n - (k < n)
    if kind == 1:
        return [1] + some_place(chance, span), n
    if kind == 3:
        return [3, chance.randint(0, n)] + some_leaf(chance, span), n
    if kind == 5:
        return some_pairs(chance, n), n
    if kind == 6:
        return [6, chance.randint(0, 1)], n
    return [kind], n


def some_calls(chance):
    span = chance.choice((2, 10, 1000, 100000))
    most = chance.choice((2, 3, 4, 5, 8, 8, 9))
    n = 0
    calls = []
    for count in range(chance.choice((20, 60, 150))):
        call, n = some_call(chance, n, span, most)
        calls.append(call)
    return calls


class AgainstReference(unittest.TestCase):
    def test_mixed_calls(self):
        chance = random.Random(20)
        for turn in range(120):
            calls = some_calls(chance)
            self.assertEqual(ask(*calls), reference_answers(calls), calls)

    def test_drops_of_eight(self):
        chance = random.Random(21)
        for turn in range(150):
            calls = [[2] + some_leaf(chance, 50) for k in range(8)]
            calls += [some_pairs(chance, 8), [1] + some_place(chance, 50), [7]]
            calls += [some_pairs(chance, 8)]
            for n in range(8, 0, -1):
                calls += [[4, chance.randrange(n)], [8], [1] + some_place(chance, 90), [8]]
                if chance.random() < 0.2:
                    calls += [chance.choice(([7], [9]))]
            self.assertEqual(ask(*calls), reference_answers(calls), calls)

    def test_plans_of_six_and_fewer(self):
        chance = random.Random(22)
        for n in (1, 2, 3, 4, 5, 6):
            for turn in range(4):
                span = chance.choice((1, 3, 100))
                calls = [[2] + some_leaf(chance, span) for k in range(n)]
                calls += [[6, 0], [7], [6, 1], [7]]
                self.assertEqual(ask(*calls), reference_answers(calls), calls)

    def test_shapes_in_order(self):
        for n, count in ((1, 1), (2, 1), (3, 3), (4, 15), (5, 105), (6, 945)):
            leaves = [leaf_at(k, 0, 0, 1) for k in range(n)]
            ours = [outcome.tree for outcome in all_outcomes(tuple(range(n)), leaves, {})]
            theirs = [as_tuples(node) for node in all_shapes(list(range(n)))]
            self.assertEqual(len(ours), count)
            self.assertEqual(ours, theirs)


def as_tuples(node):
    if node.sides is None:
        return node.leaf
    return (as_tuples(node.sides[0]), as_tuples(node.sides[1]))


if __name__ == "__main__":
    unittest.main()
