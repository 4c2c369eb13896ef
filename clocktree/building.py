"""What is built: laid out from the source, mended, tied anew, and left by a leaf."""

from clocktree.outcomes import outcomes_of_pairs
from clocktree.places import apart, nearest_place
from clocktree.shapes import joint_above, pairs_without


class Built:
    """A shape's pairs; each joint's place and its two wires' lengths, in the order of joints; the trunk's length.

    It is never changed, but another one put in its place.
    """

    def __init__(self, pairs, places, wires, trunk):
        self.pairs = pairs
        self.places = places
        self.wires = wires
        self.trunk = trunk


def all_wire(built):
    return built.trunk + sum([lengths[0] + lengths[1] for lengths in built.wires])


def places_from(outcomes, pairs, source):
    """Where each leaf and each joint is, by their numbers, laid out from the source."""
    count = len(pairs) + 1
    places = [source] * len(outcomes)
    places[-1] = nearest_place(outcomes[-1].area, source)
    # Backwards each joint comes ahead of its sides.
    for at in range(len(pairs) - 1, -1, -1):
        for side in pairs[at]:
            places[side] = nearest_place(outcomes[side].area, places[count + at])
    return places


def built_from(leaves, pairs, source):
    outcomes = outcomes_of_pairs(leaves, pairs)
    places = places_from(outcomes, pairs, source)
    wires = []
    for at, pair in enumerate(pairs):
        time = outcomes[len(leaves) + at].time
        wires.append((time - outcomes[pair[0]].time, time - outcomes[pair[1]].time))
    return Built(pairs, tuple(places[len(leaves):]), tuple(wires), apart(source, places[-1]))


def places_of_all(built, leaves):
    """Where each leaf and each joint is now, by their numbers."""
    return [leaf.place for leaf in leaves] + list(built.places)


def mended(built, leaves, source):
    """The same joints, tied with no wire shorter than it was, nor than from end to end."""
    places = places_of_all(built, leaves)
    times = [leaf.late for leaf in leaves]
    wires = []
    for at, pair in enumerate(built.pairs):
        first = pair[0]
        second = pair[1]
        to_first = max(apart(built.places[at], places[first]), built.wires[at][0])
        to_second = max(apart(built.places[at], places[second]), built.wires[at][1])
        time = max(times[first] + to_first, times[second] + to_second)
        wires.append((time - times[first], time - times[second]))
        times.append(time)
    trunk = max(apart(source, places[-1]), built.trunk)
    return Built(built.pairs, built.places, tuple(wires), trunk)


def tied_anew(built, leaves, source):
    # Wires of no length are mended to just what it takes from end to end.
    no_wires = [(0, 0)] * len(built.pairs)
    return mended(Built(built.pairs, built.places, no_wires, 0), leaves, source)


def longer_to(pair, lengths, number, more):
    """The two lengths of a joint's wires, the one to this number longer by so much, if it is a side."""
    if pair[0] == number:
        return (lengths[0] + more, lengths[1])
    if pair[1] == number:
        return (lengths[0], lengths[1] + more)
    return lengths


def built_without(built, leaf):
    """What is built once this leaf, one of two or more, is gone, and the joint above it with it."""
    above = joint_above(built.pairs, leaf)
    gone = len(built.pairs) + 1 + above
    lengths = built.wires[above]
    more = lengths[1] if built.pairs[above][0] == leaf else lengths[0]
    wires = [longer_to(pair, own, gone, more) for pair, own in zip(built.pairs, built.wires)]
    places = built.places[:above] + built.places[above + 1:]
    is_root = above == len(built.pairs) - 1
    trunk = built.trunk + more if is_root else built.trunk
    return Built(pairs_without(built.pairs, leaf), places, tuple(wires[:above] + wires[above + 1:]), trunk)
