"""The document's words a second time, over trees of nodes and fractions, to hold the program against."""

from copy import deepcopy
from fractions import Fraction
from itertools import product


class Node:
    """A leaf (with its number) or a joint (with its two sides); a joint has a place and two lengths once built."""

    def __init__(self, leaf=None, sides=None):
        self.leaf = leaf
        self.sides = sides
        self.place = None
        self.lengths = None

    def leaves(self):
        if self.sides is None:
            return [self.leaf]
        return self.sides[0].leaves() + self.sides[1].leaves()

    def joints(self):
        if self.sides is None:
            return []
        return self.sides[0].joints() + self.sides[1].joints() + [self]

    def copy(self):
        if self.sides is None:
            return Node(leaf=self.leaf)
        return Node(sides=[side.copy() for side in self.sides])


def far(one, other):
    return max(abs(one[0] - other[0]), abs(one[1] - other[1]))


def all_shapes(leaves):
    if len(leaves) == 1:
        return [Node(leaf=leaves[0])]
    ways = [way for way in product((0, 1), repeat=len(leaves) - 1) if 1 in way]
    ways.sort(key=lambda way: way[::-1])
    shapes = []
    for way in ways:
        first = [leaves[0]] + [leaf for leaf, side in zip(leaves[1:], way) if side == 0]
        second = [leaf for leaf, side in zip(leaves[1:], way) if side == 1]
        for one in all_shapes(first):
            for other in all_shapes(second):
                shapes.append(Node(sides=[one, other]))
    return shapes


class Reference:
    def __init__(self):
        self.start()

    def start(self):
        self.source = (Fraction(0), Fraction(0))
        self.leaf_list = []
        self.planned = None
        self.tree = None
        self.trunk = None
        self.done = []
        self.undone = []

    def all_there_is(self):
        return deepcopy((self.source, self.leaf_list, self.planned, self.tree, self.trunk))

    def make_as(self, kept):
        self.source, self.leaf_list, self.planned, self.tree, self.trunk = kept

    # What a tree comes to: (intervals, time, wire, power), all in whole units.
    def comes_to(self, node):
        if node.sides is None:
            (s, t), late, need = self.leaf_list[node.leaf]
            return [(s, s), (t, t)], late, Fraction(0), Fraction(0)
        (a1, t1, w1, p1), (a2, t2, w2, p2) = [self.comes_to(side) for side in node.sides]
        gaps = [max(Fraction(0), l2 - h1, l1 - h2) for (l1, h1), (l2, h2) in zip(a1, a2)]
        time = max(t1, t2, (t1 + t2 + max(gaps)) / 2)
        r1, r2 = time - t1, time - t2
        area = [(max(l1 - r1, l2 - r2), min(h1 + r1, h2 + r2)) for (l1, h1), (l2, h2) in zip(a1, a2)]
        power = p1 + p2 + r1 * self.steps(node.sides[0]) + r2 * self.steps(node.sides[1])
        return area, time, w1 + w2 + r1 + r2, power

    def steps(self, node):
        return len([i for i in range(16) if any(self.leaf_list[k][2] >> i & 1 for k in node.leaves())])

    def place_of(self, node):
        return self.leaf_list[node.leaf][0] if node.sides is None else node.place

    def lay_out(self, node, near):
        if node.sides is None:
            return
        area, time, wire, power = self.comes_to(node)
        node.place = tuple(sorted((low, near[i], high))[1] for i, (low, high) in enumerate(area))
        node.lengths = [time - self.comes_to(side)[1] for side in node.sides]
        for side in node.sides:
            self.lay_out(side, node.place)

    def tie(self, node, keep):
        """The node's time, with its wires made as long as they have to be."""
        if node.sides is None:
            return self.leaf_list[node.leaf][1]
        times = [self.tie(side, keep) for side in node.sides]
        least = [far(node.place, self.place_of(side)) for side in node.sides]
        if keep:
            least = [max(one, old) for one, old in zip(least, node.lengths)]
        time = max(one + length for one, length in zip(times, least))
        node.lengths = [time - one for one in times]
        return time

    def tie_all(self, keep):
        self.tie(self.tree, keep)
        span = far(self.source, self.place_of(self.tree))
        self.trunk = max(span, self.trunk) if keep else span

    def wire(self, node):
        if node.sides is None:
            return Fraction(0)
        return sum(node.lengths) + sum(self.wire(side) for side in node.sides)

    def all_wire(self):
        return self.trunk + self.wire(self.tree)

    def wires(self):
        """Each wire of what is built: how long it is, where it begins, and what it leads to."""
        found = [(self.trunk, self.source, self.tree)]
        for node in self.tree.joints():
            found += [(length, node.place, side) for side, length in zip(node.sides, node.lengths)]
        return found

    def moments(self, node, moment):
        """When it is at each leaf behind a node that it is at by then."""
        if node.sides is None:
            return {node.leaf: moment + self.leaf_list[node.leaf][1]}
        found = {}
        for side, length in zip(node.sides, node.lengths):
            found.update(self.moments(side, moment + length))
        return found

    # A leaf gone from a tree: what is left of the node, and how much longer the wire to it is.
    def left_over(self, node, k):
        if node.sides is None:
            return (None if node.leaf == k else node), Fraction(0)
        lengths = node.lengths if node.lengths is not None else [Fraction(0)] * 2
        for i in (0, 1):
            if node.sides[i].leaf == k:
                return node.sides[1 - i], lengths[1 - i]
        for i in (0, 1):
            node.sides[i], more = self.left_over(node.sides[i], k)
            lengths[i] += more
        return node, Fraction(0)

    def renumber(self, node, k):
        if node.sides is None:
            node.leaf -= node.leaf > k
        else:
            for side in node.sides:
                self.renumber(side, k)

    def do_new(self):
        self.start()
        return [0]

    def do_source(self, s, t):
        if not (-100000 <= s <= 100000 and -100000 <= t <= 100000):
            return [-22]
        self.source = (Fraction(s), Fraction(t))
        return [0]

    def wrong_leaf(self, s, t, late, need):
        return max(abs(s), abs(t), late) > 100000 or need > 65535

    def do_leaf(self, s, t, late, need):
        if self.wrong_leaf(s, t, late, need):
            return [-22]
        if len(self.leaf_list) >= 8:
            return [-28]
        self.leaf_list.append(((Fraction(s), Fraction(t)), Fraction(late), need))
        self.planned = self.tree = self.trunk = None
        return [len(self.leaf_list) - 1]

    def do_move(self, k, s, t, late, need):
        if not k < len(self.leaf_list):
            return [-2]
        if self.wrong_leaf(s, t, late, need):
            return [-22]
        self.leaf_list[k] = ((Fraction(s), Fraction(t)), Fraction(late), need)
        return [0]

    def do_drop(self, k):
        if not k < len(self.leaf_list):
            return [-2]
        self.leaf_list.pop(k)
        if self.planned is not None:
            self.planned, more = self.left_over(self.planned, k)
        if self.tree is not None:
            self.tree, more = self.left_over(self.tree, k)
            self.trunk = None if self.tree is None else self.trunk + more
        for root in (self.planned, self.tree):
            if root is not None:
                self.renumber(root, k)
        return [len(self.leaf_list)]

    def do_shape(self, *pairs):
        n = len(self.leaf_list)
        if n == 0:
            return [-16]
        # What is there to be joined; what is joined is there no more.
        there = {k: Node(leaf=k) for k in range(n)}
        if len(pairs) % 2:
            return [-22]
        for i in range(0, len(pairs), 2):
            first, second = pairs[i:i + 2]
            if first == second or first not in there or second not in there:
                return [-22]
            there[n + i // 2] = Node(sides=[there.pop(first), there.pop(second)])
        if len(there) != 1:
            return [-22]
        self.planned, = there.values()
        return [0]

    def do_plan(self, by):
        if by > 1:
            return [-22]
        n = len(self.leaf_list)
        if n == 0:
            return [-16]
        if n > 6:
            return [-7]
        best = None
        for node in all_shapes(list(range(n))):
            area, time, wire, power = self.comes_to(node)
            rank = (power, wire) if by else (wire, time)
            if best is None or rank < best[0]:
                best = (rank, node, [wire * 256, time * 256, power * 256])
        self.planned = best[1]
        return best[2]

    def do_build(self):
        if self.planned is None:
            return [-16]
        self.tree = self.planned.copy()
        self.lay_out(self.tree, self.source)
        self.trunk = far(self.source, self.place_of(self.tree))
        return [self.all_wire() * 256]

    def do_mend(self):
        if self.tree is None:
            return [-16]
        before = self.all_wire()
        self.tie_all(True)
        return [(self.all_wire() - before) * 256]

    def do_retie(self):
        if self.tree is None:
            return [-16]
        self.tie_all(False)
        return [self.all_wire() * 256]

    def do_undo(self):
        if not self.done:
            return [-6]
        self.undone.append(self.all_there_is())
        self.make_as(self.done.pop())
        return [len(self.done)]

    def do_redo(self):
        if not self.undone:
            return [-6]
        self.done.append(self.all_there_is())
        self.make_as(self.undone.pop())
        return [len(self.undone)]

    def do_told(self):
        if self.planned is None:
            return [-16]
        n = len(self.leaf_list)
        joints = self.planned.joints()
        pairs = []
        for node in joints:
            pairs += [side.leaf if side.sides is None else n + joints.index(side) for side in node.sides]
        return [2 * n - 2] + pairs

    def do_sums(self):
        if self.tree is None:
            return [-16]
        power = sum(length * self.steps(node) for length, begin, node in self.wires())
        return [self.all_wire() * 256, power * 256, self.trunk * 256]

    def do_ends(self):
        if self.tree is None:
            return [-16]
        moments = sorted(self.moments(self.tree, self.trunk).values())
        return [moments[0] * 256, moments[-1] * 256]

    def do_when(self, k):
        if self.tree is None:
            return [-16]
        moments = self.moments(self.tree, self.trunk)
        return [moments[k] * 256] if k in moments else [-2]

    def do_joint(self, k):
        if self.tree is None:
            return [-16]
        for node in self.tree.joints()[k:k + 1]:
            return [0] + [one * 256 for one in (*node.place, *node.lengths)]
        return [-2]

    def do_short(self):
        if self.tree is None:
            return [-16]
        return [sum(length < far(begin, self.place_of(node)) for length, begin, node in self.wires())]

    def do_anew(self):
        if self.tree is None:
            return [-16]
        if self.planned is None:
            return [-2]
        return [self.all_wire() * 256] + deepcopy(self).do_build()

    def do_ticking(self, i):
        if i > 15:
            return [-22]
        if self.tree is None:
            return [-16]
        ticks = [length for length, begin, node in self.wires()
                 if any(self.leaf_list[k][2] & 2 ** i for k in node.leaves())]
        return [sum(ticks) * 256]

    def answer(self, call):
        """The answer to one call, a list that begins with its number."""
        numbers = call[2:] if call[0] == 5 else call[1:]
        name = NAMES[call[0]]
        before = self.all_there_is()
        told = getattr(self, "do_" + name)(*numbers)
        if name in CHANGES and told[0] >= 0:
            self.done = (self.done + [before])[-20:]
            self.undone = []
        return told


CHANGES = ("source", "leaf", "move", "drop", "shape", "plan", "build", "mend", "retie")
NAMES = ("new", *CHANGES, "undo", "redo", "told", "sums", "ends", "when", "joint", "short", "anew", "ticking")


def reference_answers(calls):
    """The answers to calls, each a list that begins with its number, as a list for each."""
    kept = Reference()
    return [kept.answer(call) for call in calls]
