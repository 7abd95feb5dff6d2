"""Promise 4: lay and laid."""

import random
import unittest

from tests.calling import (
    NEW, TOLD, WIRE, ask, ask_last, in_parts, joint, laid, laid_by_words, lay, lay_by_words, leaf, move, random_case,
    shape,
)

# The root's sum is 5, its difference from -1 to 5; its time is 5.
TWO = [leaf(0, 0), leaf(10, 4), shape(0, 1)]
# Joint 0 has sums from -50 to 50 and difference 0; the root, cut to what leaf 2 reaches, those from 10 to 50.
WIDE = [leaf(0, -50), leaf(0, 50), leaf(60, 0), shape(0, 1, 3, 2)]

ALLOWED = [(100000, 0), (-100000, 0), (0, 100000), (0, -100000), (100000, -100000), (-100000, 100000),
           (100000, 100000), (-100000, -100000)]
REFUSED = [(100001, 0), (-100001, 0), (0, 100001), (0, -100001), (100001, 100001), (-100001, -100001),
           (2147483647, 0), (-2147483648, 0), (0, 2147483647), (0, -2147483648), (2147483647, -2147483648)]


class Lay(unittest.TestCase):
    def test_from_within_the_area_there_is_no_trunk(self):
        for t in (-1, 0, 3, 5):
            with self.subTest(t=t):
                self.assertEqual(ask_last(*TWO, lay(5, t)), [2560, 1280])

    def test_from_beside_the_area(self):
        self.assertEqual(ask_last(*TWO, lay(5, 6)), [2560 + 256, 1280 + 256])
        self.assertEqual(ask_last(*TWO, lay(5, -3)), [2560 + 512, 1280 + 512])
        self.assertEqual(ask_last(*TWO, lay(4, 2)), [2560 + 256, 1280 + 256])
        self.assertEqual(ask_last(*TWO, lay(8, 2)), [2560 + 768, 1280 + 768])

    def test_the_trunk_is_the_greater_of_both(self):
        self.assertEqual(ask_last(*TWO, lay(0, 7)), [2560 + 5 * 256, 1280 + 5 * 256])
        self.assertEqual(ask_last(*TWO, lay(2, 15)), [2560 + 10 * 256, 1280 + 10 * 256])
        self.assertEqual(ask_last(*TWO, lay(9, -4)), [2560 + 4 * 256, 1280 + 4 * 256])
        self.assertEqual(ask_last(*TWO, lay(9, -8)), [2560 + 7 * 256, 1280 + 7 * 256])

    def test_half_a_unit_of_trunk(self):
        # The root is at half a unit.
        self.assertEqual(ask_last(leaf(0, 0), leaf(1, 1), shape(0, 1), lay(0, 0)), [256 + 128, 128 + 128])
        self.assertEqual(ask_last(leaf(0, 0), leaf(1, 1), shape(0, 1), lay(-2, 0)), [256 + 640, 128 + 640])

    def test_lateness_counts(self):
        # Leaf 0 is so late that the root is there.
        late = [leaf(0, 0, 50), leaf(10, 4), shape(0, 1)]
        self.assertEqual(ask_last(*late, lay(0, 0)), [50 * 256, 50 * 256])
        self.assertEqual(ask_last(*late, lay(10, 4)), [60 * 256, 60 * 256])

    def test_one_leaf_alone(self):
        self.assertEqual(ask_last(leaf(3, 4, 5), shape(), lay(3, 4)), [0, 1280])
        self.assertEqual(ask_last(leaf(3, 4, 5), shape(), lay(1, 10)), [6 * 256, 11 * 256])
        self.assertEqual(ask_last(leaf(3, 4), shape(), lay(-100000, 10)), [100003 * 256, 100003 * 256])

    def test_at_the_edge(self):
        for s, t in ALLOWED:
            with self.subTest(s=s, t=t):
                trunk = max(abs(s - 5), -1 - t, t - 5)
                self.assertEqual(ask_last(*TWO, lay(s, t)), [2560 + 256 * trunk, 1280 + 256 * trunk])

    def test_beyond_the_edge(self):
        for s, t in REFUSED:
            with self.subTest(s=s, t=t):
                self.assertEqual(ask_last(*TWO, lay(s, t)), [-22])
                self.assertEqual(ask_last(leaf(0, 0), shape(), lay(s, t)), [-22])

    def test_no_shape_comes_ahead_of_beyond_the_edge(self):
        for s, t in REFUSED + ALLOWED:
            with self.subTest(s=s, t=t):
                self.assertEqual(ask(lay(s, t)), [[-16]])
                self.assertEqual(ask_last(leaf(0, 0), leaf(1, 1), lay(s, t)), [-16])
                self.assertEqual(ask_last(*TWO, NEW, lay(s, t)), [-16])
                self.assertEqual(ask_last(*TWO, leaf(1, 1), lay(s, t)), [-16])

    def test_changes_nothing(self):
        asked = [TOLD, WIRE, joint(0), lay(0, 0), laid(0, 0, 0)]
        before = ask(*TWO, *asked)[3:]
        for s, t in REFUSED + ALLOWED:
            with self.subTest(s=s, t=t):
                self.assertEqual(ask(*TWO, lay(s, t), *asked)[4:], before)

    def test_by_the_words(self):
        chance = random.Random(4)
        for leaves, calls, pairs, place in cases(chance):
            wire, time = lay_by_words(leaves, pairs, place)
            self.assertEqual(ask_last(*calls, lay(*place)), [in_parts(wire), in_parts(time)])


class Laid(unittest.TestCase):
    def test_from_within_the_area(self):
        for t in (-1, 0, 3, 5):
            with self.subTest(t=t):
                self.assertEqual(ask_last(*TWO, laid(5, t, 0)), [0, 1280, 256 * t, 1280, 1280])

    def test_from_beside_and_far_from_the_area(self):
        for s in (-100000, 0, 4, 6, 100000):
            for t, difference in ((-100000, -256), (-2, -256), (6, 1280), (100000, 1280), (2, 512)):
                with self.subTest(s=s, t=t):
                    self.assertEqual(ask_last(*TWO, laid(s, t, 0)), [0, 1280, difference, 1280, 1280])

    def test_the_first_sides_wire_comes_first(self):
        leaves = [leaf(0, 0, 3), leaf(10, 4)]
        self.assertEqual(ask_last(*leaves, shape(0, 1), laid(0, 0, 0)), [0, 896, 0, 896, 1664])
        self.assertEqual(ask_last(*leaves, shape(1, 0), laid(0, 0, 0)), [0, 896, 0, 1664, 896])

    def test_a_detour_is_longer_than_from_end_to_end(self):
        self.assertEqual(ask_last(leaf(0, 0, 50), leaf(10, 4), shape(0, 1), laid(7, 7, 0)), [0, 0, 0, 0, 50 * 256])
        self.assertEqual(ask_last(leaf(0, 0, 50), leaf(10, 4), shape(1, 0), laid(7, 7, 0)), [0, 0, 0, 50 * 256, 0])

    def test_a_joint_is_nearest_to_the_joint_above_it(self):
        # Joint 0 reaches down to -50, but the root that is above it is at 10.
        self.assertEqual(ask(*WIDE, laid(0, 0, 1), laid(0, 0, 0))[4:],
                         [[0, 2560, 0, 0, 12800], [0, 2560, 0, 12800, 12800]])
        self.assertEqual(ask(*WIDE, laid(-100000, 9, 1), laid(-100000, 9, 0))[4:],
                         [[0, 2560, 0, 0, 12800], [0, 2560, 0, 12800, 12800]])
        self.assertEqual(ask(*WIDE, laid(30, -9, 1), laid(30, -9, 0))[4:],
                         [[0, 7680, 0, 0, 12800], [0, 7680, 0, 12800, 12800]])
        self.assertEqual(ask(*WIDE, laid(55, 9, 1), laid(55, 9, 0))[4:],
                         [[0, 12800, 0, 0, 12800], [0, 12800, 0, 12800, 12800]])

    def test_a_joint_three_steps_below_the_place(self):
        # Each joint's area is a row of places across that of the joint above it.
        calls = [leaf(0, -10), leaf(0, 10), leaf(-40, 0), leaf(100, 30), shape(0, 1, 4, 2, 5, 3)]
        leaves = [(0, -10, 0), (0, 10, 0), (-40, 0, 0), (100, 30, 0)]
        for place in ((0, 0), (-70, 90), (100, -90), (33, 17)):
            with self.subTest(place=place):
                rows = [[0] + [in_parts(number) for number in row]
                        for row in laid_by_words(leaves, [0, 1, 4, 2, 5, 3], place)]
                self.assertEqual(ask(*calls, *[laid(*place, k) for k in range(3)])[5:], rows)

    def test_in_the_order_of_the_joints_not_of_the_pairs(self):
        found = ask(leaf(0, 0), leaf(10, 4), leaf(100, 0), leaf(100, 40), shape(2, 3, 0, 1, 5, 4),
                    laid(50, 2, 0), laid(50, 2, 1), laid(50, 2, 2))
        self.assertEqual(found[5:], [
            [0, 1280, 512, 1280, 1280],
            [0, 20480, 5120, 5120, 5120],
            [0, 12800, 512, 11520, 7680],
        ])

    def test_no_such_joint(self):
        for k in (2, 3, 4, 8, 4294967295):
            with self.subTest(k=k):
                self.assertEqual(ask_last(*WIDE, laid(0, 0, k)), [-2])

    def test_one_leaf_alone_has_no_joint(self):
        for k in (0, 1, 4294967295):
            with self.subTest(k=k):
                self.assertEqual(ask_last(leaf(3, 4), shape(), laid(0, 0, k)), [-2])
                self.assertEqual(ask_last(leaf(3, 4), shape(), laid(100001, 0, k)), [-22])

    def test_at_the_edge(self):
        for s, t in ALLOWED:
            with self.subTest(s=s, t=t):
                difference = 256 * min(max(t, -1), 5)
                self.assertEqual(ask_last(*TWO, laid(s, t, 0)), [0, 1280, difference, 1280, 1280])

    def test_at_the_edge_itself(self):
        far = [leaf(-100000, 100000), leaf(-100000, 100000), shape(0, 1)]
        self.assertEqual(ask_last(*far, laid(100000, -100000, 0)), [0, -25600000, 25600000, 0, 0])

    def test_beyond_the_edge_comes_ahead_of_no_such_joint(self):
        for s, t in REFUSED:
            for k in (0, 1, 2, 4294967295):
                with self.subTest(s=s, t=t, k=k):
                    self.assertEqual(ask_last(*WIDE, laid(s, t, k)), [-22])

    def test_no_shape_comes_ahead_of_all_else(self):
        for s, t in REFUSED + ALLOWED:
            for k in (0, 1, 4294967295):
                with self.subTest(s=s, t=t, k=k):
                    self.assertEqual(ask(laid(s, t, k)), [[-16]])
                    self.assertEqual(ask_last(leaf(0, 0), leaf(1, 1), laid(s, t, k)), [-16])
                    self.assertEqual(ask_last(*TWO, leaf(1, 1), laid(s, t, k)), [-16])

    def test_changes_nothing(self):
        asked = [TOLD, WIRE, joint(0), joint(1), lay(3, 3), laid(0, 0, 0), laid(0, 0, 1)]
        before = ask(*WIDE, *asked)[4:]
        for call in (laid(7, 7, 0), laid(7, 7, 1), laid(7, 7, 2), laid(100001, 7, 0), laid(0, -100001, 5)):
            with self.subTest(call=call):
                self.assertEqual(ask(*WIDE, call, *asked)[5:], before)

    def test_a_moved_leaf_is_where_it_was_moved_to(self):
        found = ask(leaf(0, 0), leaf(9, 9), shape(0, 1), move(1, 10, 4), laid(0, 0, 0), lay(0, 0))
        self.assertEqual(found[4:], [[0, 1280, 0, 1280, 1280], [3840, 2560]])

    def test_by_the_words(self):
        chance = random.Random(44)
        for leaves, calls, pairs, place in cases(chance):
            found = ask(*calls, *[laid(*place, k) for k in range(len(leaves))])[len(calls):]
            rows = [[0] + [in_parts(number) for number in row] for row in laid_by_words(leaves, pairs, place)]
            self.assertEqual(found, rows + [[-2]])


def cases(chance):
    """Leaves, the calls that put them and a shape there, the pairs in the order of the joints, and a place."""
    found = []
    for reach, latest in ((3, 0), (4, 4), (20, 10), (20, 60), (100000, 0), (100000, 100000)):
        for n in range(1, 9):
            for again in range(8):
                leaves, numbers = random_case(chance, n, reach, latest)
                calls = [leaf(*one) for one in leaves] + [shape(*numbers)]
                far = min(100000, chance.choice([reach, 2 * reach]))
                place = (chance.randint(-far, far), chance.randint(-far, far))
                found.append((leaves, calls, ask_last(*calls, TOLD)[1:], place))
    return found


if __name__ == "__main__":
    unittest.main()
