"""Promise 3: wire and joint; what a tree comes to."""

import itertools
import random
import unittest
from fractions import Fraction

from tests.calling import (
    TOLD, WIRE, apart, ask, ask_last, comes_to, in_parts, joint, leaf, move, random_case, shape,
)


def least_by_search(leaves, step, low, high):
    """The least wire and the least time of ((0, 1), 2), over all places of a lattice for its two joints."""
    lattice = [(Fraction(x, step), Fraction(y, step))
               for x in range(low * step, high * step + 1) for y in range(low * step, high * step + 1)]
    l0, l1, l2 = leaves
    wires = []
    times = []
    for p in lattice:
        t = max(l0[2] + apart(p, l0), l1[2] + apart(p, l1))
        for r in lattice:
            time = max(t + apart(r, p), l2[2] + apart(r, l2))
            wires.append(2 * t - l0[2] - l1[2] + 2 * time - t - l2[2])
            times.append(time)
    return min(wires), min(times)


class OneLeaf(unittest.TestCase):
    def test_its_lateness_is_its_time(self):
        self.assertEqual(ask_last(leaf(5, -6, 0), shape(), WIRE), [0, 0])
        self.assertEqual(ask_last(leaf(5, -6, 7), shape(), WIRE), [0, 7 * 256])
        self.assertEqual(ask_last(leaf(5, -6, 100000), shape(), WIRE), [0, 25600000])

    def test_it_has_no_joint(self):
        for k in (0, 1, 4294967295):
            with self.subTest(k=k):
                self.assertEqual(ask_last(leaf(5, -6, 7), shape(), joint(k)), [-2])


class TwoLeaves(unittest.TestCase):
    def both(self, one, other):
        found = ask(leaf(*one), leaf(*other), shape(0, 1), WIRE, joint(0))
        turned = ask(leaf(*one), leaf(*other), shape(1, 0), WIRE, joint(0))
        self.assertEqual(found[3:], turned[3:])
        self.assertEqual(found[3], [found[4][1], found[4][0]])
        return found[4]

    def test_the_sums_lie_farther_apart(self):
        self.assertEqual(self.both((0, 0, 0), (10, 4, 0)), [1280, 2560, 1280, 1280, -256, 1280])

    def test_the_differences_lie_farther_apart(self):
        self.assertEqual(self.both((0, 0, 0), (4, -10, 0)), [1280, 2560, -256, 1280, -1280, -1280])

    def test_both_lie_as_far_apart(self):
        self.assertEqual(self.both((-3, 2, 0), (3, 8, 0)), [768, 1536, 0, 0, 1280, 1280])

    def test_half_of_one_is_kept(self):
        self.assertEqual(self.both((0, 0, 0), (1, 0, 0)), [128, 256, 128, 128, -128, 128])
        self.assertEqual(self.both((0, 0, 0), (-7, 2, 0)), [896, 1792, -896, -896, -384, 896])

    def test_lateness_draws_the_joint_near(self):
        self.assertEqual(self.both((0, 0, 3), (10, 4, 0)), [1664, 2560, 896, 896, -640, 896])

    def test_just_as_late_as_far(self):
        self.assertEqual(self.both((0, 0, 10), (10, 4, 0)), [2560, 2560, 0, 0, 0, 0])

    def test_so_late_that_the_other_needs_a_detour(self):
        self.assertEqual(self.both((0, 0, 11), (10, 4, 0)), [2816, 2816, 0, 0, 0, 0])
        self.assertEqual(self.both((2, 3, 100), (10, 4, 1)), [25600, 25344, 512, 512, 768, 768])

    def test_at_one_place(self):
        self.assertEqual(self.both((6, -7, 0), (6, -7, 0)), [0, 0, 1536, 1536, -1792, -1792])
        self.assertEqual(self.both((6, -7, 4), (6, -7, 4)), [1024, 0, 1536, 1536, -1792, -1792])
        self.assertEqual(self.both((6, -7, 4), (6, -7, 9)), [2304, 1280, 1536, 1536, -1792, -1792])

    def test_as_far_as_can_be(self):
        self.assertEqual(self.both((-100000, -100000, 100000), (100000, 100000, 100000)),
                         [51200000, 51200000, 0, 0, 0, 0])
        self.assertEqual(self.both((-100000, 0, 0), (100000, 0, 0)),
                         [25600000, 51200000, 0, 0, -25600000, 25600000])


class Joints(unittest.TestCase):
    def test_no_such_joint(self):
        three = [leaf(0, 0), leaf(10, 4), leaf(5, 30), shape(0, 1, 3, 2)]
        before = ask(*three, joint(0), joint(1), WIRE, TOLD)[4:]
        self.assertTrue(all(len(numbers) == 6 for numbers in before[:2]))
        for k in (2, 3, 4, 8, 4294967295):
            with self.subTest(k=k):
                found = ask(*three, joint(k), joint(0), joint(1), WIRE, TOLD)
                self.assertEqual(found[4:], [[-2]] + before)

    def test_the_last_joint_is_the_root(self):
        found = ask(leaf(0, 0), leaf(10, 4), leaf(5, 30), shape(0, 1, 3, 2), WIRE, joint(1))
        self.assertEqual(found[4], [found[5][1], found[5][0]])

    def test_in_the_order_of_the_sides_not_of_the_pairs(self):
        found = ask(leaf(0, 0), leaf(10, 4), leaf(100, 0), leaf(100, 40), shape(2, 3, 0, 1, 5, 4),
                    joint(0), joint(1), joint(2))
        self.assertEqual(found[5:], [
            [1280, 2560, 1280, 1280, -256, 1280],
            [5120, 10240, 20480, 30720, 5120, 5120],
            [12800, 32000, 12800, 12800, -2560, 12800],
        ])

    def test_a_wide_late_side_is_cut_to_what_the_other_reaches(self):
        # The first side's area has sums from -50 to 50, difference 0; leaf 2 is near enough to some of it alone.
        found = ask(leaf(0, -50), leaf(0, 50), leaf(60, 0, 0), shape(0, 1, 3, 2), joint(0), joint(1))
        self.assertEqual(found[4], [12800, 12800 * 2, -12800, 12800, 0, 0])
        self.assertEqual(found[5], [12800, 12800 * 3, 2560, 12800, 0, 0])

    def test_a_wide_late_side_is_cut_from_the_second_side_too(self):
        found = ask(leaf(0, -50), leaf(0, 50), leaf(60, 0, 0), shape(0, 1, 2, 3), joint(0), joint(1))
        self.assertEqual(found[5], [12800, 12800 * 3, 2560, 12800, 0, 0])

    def test_areas_that_meet(self):
        # Two crossing areas, of like time: they are nowhere apart, so the root takes no wire.
        found = ask(leaf(0, -8), leaf(0, 8), leaf(-8, 0), leaf(8, 0), shape(0, 1, 2, 3, 4, 5), joint(2))
        self.assertEqual(found[5], [2048, 8192, 0, 0, 0, 0])

    def test_a_half_at_each_of_seven_joints_is_kept(self):
        leaves = [(0, 0, 0), (1, 0, 0), (3, 0, 0), (5, 0, 0), (9, 0, 0), (17, 0, 0), (33, 0, 0), (65, 0, 0)]
        numbers = [0, 1, 8, 2, 9, 3, 10, 4, 11, 5, 12, 6, 13, 7]
        found = ask(*[leaf(*one) for one in leaves], shape(*numbers), *[joint(k) for k in range(7)])
        self.assert_as_told(leaves, numbers, found[9:])
        self.assertEqual([numbers[0] % 256 for numbers in found[9:]], [128] * 7)

    def assert_as_told(self, leaves, pairs, found):
        told = comes_to(leaves, pairs)[len(leaves):]
        self.assertEqual(found, [[in_parts(x) for x in (time, wire, *area)] for time, wire, area in told])

    def test_by_the_words(self):
        chance = random.Random(2)
        for reach, latest in ((3, 0), (3, 4), (20, 10), (20, 60), (100000, 0), (100000, 100000)):
            for n in range(1, 9):
                for again in range(12):
                    leaves, numbers = random_case(chance, n, reach, latest)
                    calls = [leaf(*one) for one in leaves] + [shape(*numbers)]
                    pairs = ask_last(*calls, TOLD)[1:]
                    found = ask(*calls, *[joint(k) for k in range(n - 1)], WIRE)[n + 1:]
                    self.assert_as_told(leaves, pairs, found[:-1])
                    time, wire, area = comes_to(leaves, numbers)[-1]
                    self.assertEqual(found[-1], [in_parts(wire), in_parts(time)])

    def test_after_moves(self):
        chance = random.Random(3)
        for again in range(20):
            leaves, pairs = random_case(chance, 5, 40, 30)
            calls = [leaf(0, 0) for one in leaves] + [shape(*pairs)]
            calls += [move(k, *leaves[k]) for k in chance.sample(range(5), 5)]
            time, wire, area = comes_to(leaves, pairs)[-1]
            self.assertEqual(ask_last(*calls, WIRE), [in_parts(wire), in_parts(time)])


class NoTreeHasLess(unittest.TestCase):
    def test_wherever_the_joints_are(self):
        cases = [
            [(0, 0, 0), (2, 1, 0), (1, 2, 0)],
            [(0, 0, 0), (2, 2, 0), (0, 1, 3)],
            [(0, 1, 2), (2, 0, 0), (2, 2, 0)],
            [(0, 0, 0), (0, 2, 0), (2, 1, 0)],
        ]
        for leaves in cases:
            with self.subTest(leaves=leaves):
                wire, time = least_by_search(leaves, 4, 0, 2)
                found = ask_last(*[leaf(*one) for one in leaves], shape(0, 1, 3, 2), WIRE)
                self.assertEqual(found, [in_parts(wire), in_parts(time)])

    def test_it_is_as_soon_as_the_two_that_take_longest_allow(self):
        chance = random.Random(5)
        for again in range(100):
            leaves, pairs = random_case(chance, 8, 50, 40)
            time = max(Fraction(one[2] + other[2] + apart(one, other), 2)
                       for one, other in itertools.product(leaves, leaves))
            found = ask_last(*[leaf(*one) for one in leaves], shape(*pairs), WIRE)
            self.assertEqual(found[1], in_parts(time), (leaves, pairs))

    def test_of_two_leaves_no_place_has_less(self):
        for one, other in itertools.product([(0, 0, 0), (3, 1, 2)], [(2, 5, 0), (3, 1, 6), (-4, 0, 1)]):
            with self.subTest(one=one, other=other):
                times = [max(one[2] + apart(place, one), other[2] + apart(place, other))
                         for place in [(Fraction(x, 2), Fraction(y, 2))
                                       for x in range(-12, 13) for y in range(-12, 13)]]
                time = min(times)
                found = ask_last(leaf(*one), leaf(*other), shape(0, 1), WIRE)
                self.assertEqual(found, [in_parts(2 * time - one[2] - other[2]), in_parts(time)])


if __name__ == "__main__":
    unittest.main()
