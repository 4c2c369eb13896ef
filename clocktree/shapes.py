"""Shapes: trees over the leaves 0 to n - 1.

As a tree, a shape is a leaf's number or a tuple of its two sides' trees.
As pairs, it is a tuple of (first side, second side), one for each joint in the order of joints:
the pair of joint i makes the number n + i, so that sides always stand ahead of what joins them.
"""


def is_shape(numbers, count):
    """Whether these numbers, two for each pair, are a shape over so many leaves."""
    if len(numbers) != 2 * count - 2:
        return False
    used = {}
    for at, number in enumerate(numbers):
        # A pair joins what is there already, so neither itself nor what a later pair makes.
        if number >= count + at // 2 or number in used:
            return False
        used[number] = True
    return True


def tree_of_numbers(numbers, count):
    trees = list(range(count))
    for at in range(0, len(numbers), 2):
        trees.append((trees[numbers[at]], trees[numbers[at + 1]]))
    return trees[-1]


def add_pairs(tree, count, pairs):
    """Put the tree's pairs behind those that are there; answer the number of its root."""
    if isinstance(tree, int):
        return tree
    first = add_pairs(tree[0], count, pairs)
    second = add_pairs(tree[1], count, pairs)
    pairs.append((first, second))
    return count + len(pairs) - 1


def pairs_of_tree(tree, count):
    pairs = []
    add_pairs(tree, count, pairs)
    return tuple(pairs)


def splits(numbers):
    """All ways to put a tuple of leaves on two sides, in the order of all shapes."""
    ways = [(numbers[:1], ())]
    for number in numbers[1:]:
        on_first = [(way[0] + (number,), way[1]) for way in ways]
        on_second = [(way[0], way[1] + (number,)) for way in ways]
        # The later a leaf is in the list, the more its side counts for the order.
        ways = on_first + on_second
    # The way at the beginning has all leaves on the first side.
    return ways[1:]


def joint_above(pairs, number):
    """Which joint has this number as a side, or None if it is the root."""
    for at, pair in enumerate(pairs):
        if number in pair:
            return at
    return None


def other_side(pair, number):
    return pair[1] if pair[0] == number else pair[0]


def number_without(number, leaf, gone, other):
    """What a number becomes once the leaf and the joint above it, of the number gone, are not there."""
    kept = other if number == gone else number
    if kept > gone:
        return kept - 2
    if kept > leaf:
        return kept - 1
    return kept


def pairs_without(pairs, leaf):
    """The pairs once this leaf, one of two or more, is gone, and the joint above it with it."""
    above = joint_above(pairs, leaf)
    gone = len(pairs) + 1 + above
    other = other_side(pairs[above], leaf)
    kept = pairs[:above] + pairs[above + 1:]
    return tuple([
        (number_without(pair[0], leaf, gone, other), number_without(pair[1], leaf, gone, other)) for pair in kept
    ])
