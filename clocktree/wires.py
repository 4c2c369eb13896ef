"""The wires of what is built as they are now, and when the signal is at the leaves."""

from clocktree.building import places_of_all
from clocktree.outcomes import steps_in
from clocktree.places import apart


class Wire:
    """How long a wire is, how far it is from end to end, and the needs of all leaves behind it."""

    def __init__(self, length, span, needs):
        self.length = length
        self.span = span
        self.needs = needs


def needs_of_all(built, leaves):
    """The needs behind each leaf and each joint now, by their numbers."""
    needs = [leaf.need for leaf in leaves]
    for pair in built.pairs:
        needs.append(needs[pair[0]] | needs[pair[1]])
    return needs


def wires_of(built, leaves, source):
    """All wires, the trunk first."""
    places = places_of_all(built, leaves)
    needs = needs_of_all(built, leaves)
    wires = [Wire(built.trunk, apart(source, places[-1]), needs[-1])]
    for at, pair in enumerate(built.pairs):
        for side, length in zip(pair, built.wires[at]):
            wires.append(Wire(length, apart(built.places[at], places[side]), needs[side]))
    return wires


def power_of(wires):
    return sum([wire.length * steps_in(wire.needs) for wire in wires])


def wire_ticking(wires, step):
    return sum([wire.length for wire in wires if (wire.needs >> step) & 1 == 1])


def count_short(wires):
    return len([wire for wire in wires if wire.length < wire.span])


def moments_of(built, leaves):
    """When it is at each leaf's end, counted from the source, with how late the leaf is by itself."""
    count = len(leaves)
    moments = [built.trunk] * (count + len(built.pairs))
    # Backwards each joint comes ahead of its sides.
    for at in range(len(built.pairs) - 1, -1, -1):
        for side, length in zip(built.pairs[at], built.wires[at]):
            moments[side] = moments[count + at] + length
    return [moments[number] + leaf.late for number, leaf in enumerate(leaves)]
