"""The calls that change what there is: each takes the chip and its numbers and answers numbers.

A refusal is answered before anything is changed. What the chip holds is replaced, never changed in place.
"""

from clocktree.building import all_wire, built_from, built_without, mended, tied_anew
from clocktree.chip import remember, state_of
from clocktree.outcomes import Leaf, best_outcome
from clocktree.places import in_parts
from clocktree.refusals import NOT_THERE, NO_ROOM, NO_SUCH_ONE, OUT_OF_BOUNDS, TOO_MANY_SHAPES
from clocktree.shapes import is_shape, pairs_of_tree, pairs_without, tree_of_numbers

FARTHEST = 100000
LATEST = 100000
ALL_STEPS = 65535
MOST_LEAVES = 8
MOST_PLANNED = 6


def is_in_reach(s, t):
    return abs(s) <= FARTHEST and abs(t) <= FARTHEST


def is_leaf(s, t, late, need):
    return is_in_reach(s, t) and late <= LATEST and need <= ALL_STEPS


def place_at(s, t):
    return (in_parts(s), in_parts(t))


def leaf_at(s, t, late, need):
    return Leaf(place_at(s, t), in_parts(late), need)


def answer_source(chip, numbers):
    if not is_in_reach(numbers[0], numbers[1]):
        return [OUT_OF_BOUNDS]
    chip.source = place_at(numbers[0], numbers[1])
    return [0]


def answer_leaf(chip, numbers):
    if not is_leaf(numbers[0], numbers[1], numbers[2], numbers[3]):
        return [OUT_OF_BOUNDS]
    if len(chip.leaves) == MOST_LEAVES:
        return [NO_ROOM]
    chip.leaves = chip.leaves + [leaf_at(numbers[0], numbers[1], numbers[2], numbers[3])]
    chip.plan = None
    chip.built = None
    return [len(chip.leaves) - 1]


def answer_move(chip, numbers):
    number = numbers[0]
    if number >= len(chip.leaves):
        return [NO_SUCH_ONE]
    if not is_leaf(numbers[1], numbers[2], numbers[3], numbers[4]):
        return [OUT_OF_BOUNDS]
    leaf = leaf_at(numbers[1], numbers[2], numbers[3], numbers[4])
    chip.leaves = chip.leaves[:number] + [leaf] + chip.leaves[number + 1:]
    return [0]


def answer_drop(chip, numbers):
    number = numbers[0]
    if number >= len(chip.leaves):
        return [NO_SUCH_ONE]
    chip.leaves = chip.leaves[:number] + chip.leaves[number + 1:]
    is_last = len(chip.leaves) == 0
    if chip.plan is not None:
        chip.plan = None if is_last else pairs_without(chip.plan, number)
    if chip.built is not None:
        chip.built = None if is_last else built_without(chip.built, number)
    return [len(chip.leaves)]


def answer_shape(chip, numbers):
    count = len(chip.leaves)
    if count == 0:
        return [NOT_THERE]
    if not is_shape(numbers, count):
        return [OUT_OF_BOUNDS]
    chip.plan = pairs_of_tree(tree_of_numbers(numbers, count), count)
    return [0]


def answer_plan(chip, numbers):
    by = numbers[0]
    if by > 1:
        return [OUT_OF_BOUNDS]
    if len(chip.leaves) == 0:
        return [NOT_THERE]
    if len(chip.leaves) > MOST_PLANNED:
        return [TOO_MANY_SHAPES]
    best = best_outcome(chip.leaves, by == 1)
    chip.plan = pairs_of_tree(best.tree, len(chip.leaves))
    return [best.wire, best.time, best.power]


def answer_build(chip, numbers):
    if chip.plan is None:
        return [NOT_THERE]
    chip.built = built_from(chip.leaves, chip.plan, chip.source)
    return [all_wire(chip.built)]


def answer_mend(chip, numbers):
    if chip.built is None:
        return [NOT_THERE]
    before = all_wire(chip.built)
    chip.built = mended(chip.built, chip.leaves, chip.source)
    return [all_wire(chip.built) - before]


def answer_retie(chip, numbers):
    if chip.built is None:
        return [NOT_THERE]
    chip.built = tied_anew(chip.built, chip.leaves, chip.source)
    return [all_wire(chip.built)]


CHANGES = {
    1: answer_source,
    2: answer_leaf,
    3: answer_move,
    4: answer_drop,
    5: answer_shape,
    6: answer_plan,
    7: answer_build,
    8: answer_mend,
    9: answer_retie,
}


def answer_change(chip, call, numbers):
    before = state_of(chip)
    answer = CHANGES[call](chip, numbers)
    # Only refusals begin with a number below 0, and what is refused is no change.
    if answer[0] >= 0:
        remember(chip, before)
    return answer
