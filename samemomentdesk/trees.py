"""What a tree comes to: a time, wire and an area, all in parts."""

from samemomentdesk.places import PARTS, in_parts


class Outcome:
    """What a tree comes to; its area is (least sum, greatest sum, least difference, greatest difference)."""

    def __init__(self, time, wire, area):
        self.time = time
        self.wire = wire
        self.area = area


def leaf_outcome(leaf):
    """Of a leaf that is told in whole numbers: (sum, difference, how late it is)."""
    place = in_parts(leaf[0], leaf[1])
    return Outcome(PARTS * leaf[2], 0, (place[0], place[0], place[1], place[1]))


def gap(low, high, other_low, other_high):
    return max(0, other_low - high, low - other_high)


def distance(one, other):
    """From the one area to the other, between their two nearest places."""
    return max(gap(one[0], one[1], other[0], other[1]), gap(one[2], one[3], other[2], other[3]))


def widened(area, length):
    return (area[0] - length, area[1] + length, area[2] - length, area[3] + length)


def overlap(one, other):
    return (max(one[0], other[0]), min(one[1], other[1]), max(one[2], other[2]), min(one[3], other[3]))


def joint_outcome(first, second):
    # The half loses nothing: a tree of 8 leaves halves at most 7 times, and 256 parts can be halved 8 times.
    half = (first.time + second.time + distance(first.area, second.area)) // 2
    # A side that is late enough sets the time by itself; the other side's wire is then a detour.
    time = max(first.time, second.time, half)
    first_wire = time - first.time
    second_wire = time - second.time
    area = overlap(widened(first.area, first_wire), widened(second.area, second_wire))
    return Outcome(time, first.wire + second.wire + first_wire + second_wire, area)


def outcomes(leaves, pairs):
    """One outcome for each number of the shape: the leaves', then the joints'; the root's is the last."""
    found = [leaf_outcome(leaf) for leaf in leaves]
    for pair in pairs:
        found.append(joint_outcome(found[pair[0]], found[pair[1]]))
    return found
