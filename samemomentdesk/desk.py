"""The desk: the leaves and the shape that the calls speak of. Each call answers a list of whole numbers."""

from samemomentdesk.choice import least_shape
from samemomentdesk.judging import are_long_enough, leaf_moments, told_lengths, told_places
from samemomentdesk.layouts import joints_above, laid_places
from samemomentdesk.places import apart, in_parts, nearest
from samemomentdesk.shapes import all_shapes, is_shape, ordered_pairs, shape_count, shape_of_pairs
from samemomentdesk.trees import outcomes

MOST_LEAVES = 8
MOST_FOR_ALL_SHAPES = 6
FARTHEST = 100000
LATEST = 100000

NOT_THERE = -2
TOO_MANY = -7
NOTHING_YET = -16
NOT_ALLOWED = -22
NO_ROOM = -28
TOO_SHORT = -33


def is_place(s, t):
    return abs(s) <= FARTHEST and abs(t) <= FARTHEST


def is_leaf(s, t, late):
    return is_place(s, t) and late <= LATEST


class Desk:
    """Its pairs are in the order of the joints, so joint k is pair k; they are None while there is no shape."""

    def __init__(self):
        self.leaves = []
        self.pairs = None

    def start_anew(self):
        self.leaves = []
        self.pairs = None
        return [0]

    def add_leaf(self, s, t, late):
        if not is_leaf(s, t, late):
            return [NOT_ALLOWED]
        if len(self.leaves) == MOST_LEAVES:
            return [NO_ROOM]
        self.leaves.append((s, t, late))
        self.pairs = None
        return [len(self.leaves) - 1]

    def move_leaf(self, k, s, t, late):
        if k >= len(self.leaves):
            return [NOT_THERE]
        if not is_leaf(s, t, late):
            return [NOT_ALLOWED]
        self.leaves[k] = (s, t, late)
        return [0]

    def take_shape(self, numbers):
        if len(self.leaves) == 0:
            return [NOTHING_YET]
        if not is_shape(len(self.leaves), numbers):
            return [NOT_ALLOWED]
        self.keep_shape(shape_of_pairs(len(self.leaves), numbers))
        return [0]

    def keep_shape(self, shape):
        self.pairs = ordered_pairs(len(self.leaves), shape)

    def tell_shape(self):
        if self.pairs is None:
            return [NOTHING_YET]
        told = [2 * len(self.pairs)]
        for pair in self.pairs:
            told.extend(pair)
        return told

    def tell_wire(self):
        if self.pairs is None:
            return [NOTHING_YET]
        root = outcomes(self.leaves, self.pairs)[-1]
        return [root.wire, root.time]

    def tell_joint(self, k):
        if self.pairs is None:
            return [NOTHING_YET]
        if k >= len(self.pairs):
            return [NOT_THERE]
        joint = outcomes(self.leaves, self.pairs)[len(self.leaves) + k]
        return [joint.time, joint.wire] + list(joint.area)

    def lay_out(self, s, t):
        if self.pairs is None:
            return [NOTHING_YET]
        if not is_place(s, t):
            return [NOT_ALLOWED]
        start = in_parts(s, t)
        root = outcomes(self.leaves, self.pairs)[-1]
        trunk = apart(start, nearest(root.area, start))
        return [root.wire + trunk, root.time + trunk]

    def tell_laid(self, s, t, k):
        if self.pairs is None:
            return [NOTHING_YET]
        if not is_place(s, t):
            return [NOT_ALLOWED]
        if k >= len(self.pairs):
            return [NOT_THERE]
        n = len(self.leaves)
        found = outcomes(self.leaves, self.pairs)
        place = laid_places(found, joints_above(n, self.pairs), in_parts(s, t))[n + k]
        lengths = [found[n + k].time - found[side].time for side in self.pairs[k]]
        return [0, place[0], place[1]] + lengths

    def judge(self, numbers):
        if self.pairs is None:
            return [NOTHING_YET]
        if len(numbers) != 4 * len(self.pairs):
            return [NOT_ALLOWED]
        n = len(self.leaves)
        above = joints_above(n, self.pairs)
        lengths = told_lengths(n, self.pairs, numbers)
        if not are_long_enough(told_places(self.leaves, numbers), above, lengths):
            return [TOO_SHORT]
        moments = leaf_moments(self.leaves, above, lengths)
        return [sum(lengths), min(moments), max(moments)]

    def take_least(self):
        if len(self.leaves) == 0:
            return [NOTHING_YET]
        if len(self.leaves) > MOST_FOR_ALL_SHAPES:
            return [TOO_MANY]
        self.keep_shape(least_shape(self.leaves))
        return self.tell_wire()

    def take_ranked(self, k):
        if len(self.leaves) == 0:
            return [NOTHING_YET]
        if len(self.leaves) > MOST_FOR_ALL_SHAPES:
            return [TOO_MANY]
        if k >= shape_count(len(self.leaves)):
            return [NOT_THERE]
        self.keep_shape(all_shapes(len(self.leaves))[k])
        return self.tell_wire()

    def count_shapes(self):
        if len(self.leaves) > MOST_FOR_ALL_SHAPES:
            return [TOO_MANY]
        return [shape_count(len(self.leaves))]
