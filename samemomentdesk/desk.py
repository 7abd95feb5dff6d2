"""The desk: the leaves and the shape that the calls speak of. Each call answers a list of whole numbers."""

from samemomentdesk.shapes import is_shape, ordered_pairs
from samemomentdesk.trees import outcomes

MOST_LEAVES = 8
FARTHEST = 100000
LATEST = 100000

NOT_THERE = -2
NOTHING_YET = -16
NOT_ALLOWED = -22
NO_ROOM = -28


def is_place(s, t):
    return abs(s) <= FARTHEST and abs(t) <= FARTHEST


def is_leaf(s, t, late):
    return is_place(s, t) and late <= LATEST


class Desk:
    """Its pairs are in the order of the joints, so joint k is pair k; they are None while there is no shape."""

    def __init__(self):
        self.leaves = []
        self.pairs = None

    def start_anew(self):
        self.leaves = []
        self.pairs = None
        return [0]

    def add_leaf(self, s, t, late):
        if not is_leaf(s, t, late):
            return [NOT_ALLOWED]
        if len(self.leaves) == MOST_LEAVES:
            return [NO_ROOM]
        self.leaves.append((s, t, late))
        self.pairs = None
        return [len(self.leaves) - 1]

    def move_leaf(self, k, s, t, late):
        if k >= len(self.leaves):
            return [NOT_THERE]
        if not is_leaf(s, t, late):
            return [NOT_ALLOWED]
        self.leaves[k] = (s, t, late)
        return [0]

    def take_shape(self, numbers):
        if len(self.leaves) == 0:
            return [NOTHING_YET]
        if not is_shape(len(self.leaves), numbers):
            return [NOT_ALLOWED]
        self.pairs = ordered_pairs(len(self.leaves), numbers)
        return [0]

    def tell_shape(self):
        if self.pairs is None:
            return [NOTHING_YET]
        told = [2 * len(self.pairs)]
        for pair in self.pairs:
            told.extend(pair)
        return told

    def tell_wire(self):
        if self.pairs is None:
            return [NOTHING_YET]
        root = outcomes(self.leaves, self.pairs)[-1]
        return [root.wire, root.time]

    def tell_joint(self, k):
        if self.pairs is None:
            return [NOTHING_YET]
        if k >= len(self.pairs):
            return [NOT_THERE]
        joint = outcomes(self.leaves, self.pairs)[len(self.leaves) + k]
        return [joint.time, joint.wire] + list(joint.area)
