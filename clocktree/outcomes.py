"""What a tree comes to: an area, a time, wire and power; and the best of all shapes."""

from clocktree.places import area_of_place, area_within, areas_apart
from clocktree.shapes import splits


class Leaf:
    """Where a leaf is and how late, both in parts, and in which steps it is needed."""

    def __init__(self, place, late, need):
        self.place = place
        self.late = late
        self.need = need


class Outcome:
    """What a tree comes to, with the needs of all its leaves and in how many steps there are any."""

    def __init__(self, tree, area, time, wire, power, needs):
        self.tree = tree
        self.area = area
        self.time = time
        self.wire = wire
        self.power = power
        self.needs = needs
        self.steps = steps_in(needs)


def steps_in(needs):
    steps = 0
    left = needs
    while left > 0:
        steps += left & 1
        left = left >> 1
    return steps


def leaf_outcome(number, leaf):
    return Outcome(number, area_of_place(leaf.place), leaf.late, 0, 0, leaf.need)


def joint_outcome(first, second):
    distance = areas_apart(first.area, second.area)
    # The half is whole: leaves are whole numbers of 256 parts, and at most 7 joints halve.
    time = max(first.time, second.time, (first.time + second.time + distance) // 2)
    to_first = time - first.time
    to_second = time - second.time
    area = area_within(first.area, to_first, second.area, to_second)
    wire = first.wire + second.wire + to_first + to_second
    power = first.power + second.power + to_first * first.steps + to_second * second.steps
    return Outcome((first.tree, second.tree), area, time, wire, power, first.needs | second.needs)


def outcomes_of_pairs(leaves, pairs):
    """What each leaf and each joint of a shape comes to, by their numbers."""
    outcomes = [leaf_outcome(number, leaf) for number, leaf in enumerate(leaves)]
    for pair in pairs:
        outcomes.append(joint_outcome(outcomes[pair[0]], outcomes[pair[1]]))
    return outcomes


def joined_outcomes(numbers, leaves, known):
    outcomes = []
    for way in splits(numbers):
        seconds = all_outcomes(way[1], leaves, known)
        for first in all_outcomes(way[0], leaves, known):
            for second in seconds:
                outcomes.append(joint_outcome(first, second))
    return outcomes


def all_outcomes(numbers, leaves, known):
    """What all shapes over these leaves come to, in order; known keeps what was worked out, by leaves."""
    if numbers not in known:
        if len(numbers) == 1:
            known[numbers] = [leaf_outcome(numbers[0], leaves[numbers[0]])]
        else:
            known[numbers] = joined_outcomes(numbers, leaves, known)
    return known[numbers]


def wire_then_time(outcome):
    return (outcome.wire, outcome.time)


def power_then_wire(outcome):
    return (outcome.power, outcome.wire)


def best_outcome(leaves, by_power):
    """The best of all shapes; of like ones the first."""
    outcomes = all_outcomes(tuple(range(len(leaves))), leaves, {})
    if by_power:
        return min(outcomes, key=power_then_wire)
    return min(outcomes, key=wire_then_time)
