"""Promise 2: shape and told; and the order of the joints."""

import itertools
import random
import unittest

from tests.calling import (
    NEW, TOLD, WIRE, ask, ask_last, is_told_so, joint, leaf, nested, random_pairs, shape, some_leaves,
    told_of,
)


def accepted(n, numbers):
    return ask_last(*some_leaves(n), shape(*numbers)) == [0]


class Shape(unittest.TestCase):
    def test_one_leaf_alone_has_no_pairs(self):
        self.assertEqual(ask(leaf(4, 5, 6), shape(), TOLD)[1:], [[0], [0]])

    def test_one_leaf_alone_takes_no_pair(self):
        for numbers in ([0], [0, 0], [0, 1], [1, 0], [1]):
            with self.subTest(numbers=numbers):
                self.assertFalse(accepted(1, numbers))

    def test_two_leaves_in_either_order(self):
        self.assertEqual(ask(leaf(0, 0), leaf(1, 1), shape(0, 1), TOLD, shape(1, 0), TOLD)[2:],
                         [[0], [2, 0, 1], [0], [2, 1, 0]])

    def test_wrong_counts(self):
        right = [0, 1, 4, 2, 5, 3]
        self.assertTrue(accepted(4, right))
        for numbers in ([], right[:1], right[:2], right[:4], right[:5], right + [6], right + [6, 7],
                        right + [6, 6], [0] * 20, list(range(20))):
            with self.subTest(numbers=numbers):
                self.assertFalse(accepted(4, numbers))

    def test_right_for_more_or_fewer_leaves(self):
        self.assertFalse(accepted(5, [0, 1, 4, 2, 5, 3]))
        self.assertFalse(accepted(3, [0, 1, 4, 2, 5, 3]))
        self.assertFalse(accepted(2, []))

    def test_a_number_used_twice(self):
        for numbers in ([0, 0, 4, 2, 5, 3], [0, 1, 4, 1, 5, 3], [0, 1, 2, 3, 4, 4], [0, 1, 4, 2, 4, 3],
                        [0, 1, 0, 1, 4, 5], [0, 1, 2, 3, 5, 5]):
            with self.subTest(numbers=numbers):
                self.assertFalse(accepted(4, numbers))

    def test_a_number_not_yet_made(self):
        for numbers in ([4, 1, 0, 2, 5, 3], [0, 4, 1, 2, 5, 3], [0, 1, 5, 2, 4, 3], [0, 1, 2, 5, 4, 3],
                        [0, 1, 4, 2, 6, 3], [0, 1, 4, 2, 5, 6], [5, 1, 0, 2, 4, 3]):
            with self.subTest(numbers=numbers):
                self.assertFalse(accepted(4, numbers))

    def test_a_number_left_out(self):
        for numbers in ([0, 1, 4, 2, 5, 2], [1, 2, 4, 3, 5, 1], [0, 1, 4, 2, 6, 3], [0, 1, 2, 3, 4, 7]):
            with self.subTest(numbers=numbers):
                self.assertFalse(accepted(4, numbers))

    def test_a_number_far_too_great(self):
        for place in range(6):
            numbers = [0, 1, 4, 2, 5, 3]
            numbers[place] = 4294967295
            with self.subTest(numbers=numbers):
                self.assertFalse(accepted(4, numbers))

    def test_all_lists_over_three_leaves(self):
        for numbers in itertools.product(range(6), repeat=4):
            self.assertEqual(accepted(3, numbers), is_told_so(3, numbers), numbers)

    def test_all_orders_over_four_leaves(self):
        right = 0
        for numbers in itertools.permutations(range(6)):
            self.assertEqual(accepted(4, numbers), is_told_so(4, numbers), numbers)
            right += is_told_so(4, numbers)
        self.assertEqual(right, 144)

    def test_a_later_shape_takes_the_place_of_the_one_before(self):
        found = ask(*some_leaves(3), shape(0, 1, 3, 2), shape(2, 0, 1, 3), TOLD)
        self.assertEqual(found[3:], [[0], [0], [4, 2, 0, 1, 3]])

    def test_refused_changes_nothing(self):
        asked = [TOLD, WIRE, joint(0), joint(1), joint(2)]
        before = ask(*some_leaves(3), shape(2, 0, 1, 3), *asked)[4:]
        for numbers in ([], [0, 1], [0, 0, 3, 2], [0, 1, 3, 3], [3, 1, 0, 2], [0, 1, 3, 2, 4], [0, 1, 2, 4]):
            with self.subTest(numbers=numbers):
                found = ask(*some_leaves(3), shape(2, 0, 1, 3), shape(*numbers), *asked)
                self.assertEqual(found[4:], [[-22]] + before)

    def test_refused_makes_no_shape(self):
        found = ask(*some_leaves(3), shape(0, 1, 3, 3), TOLD, WIRE, joint(0), leaf(0, 0))
        self.assertEqual(found[3:], [[-22], [-16], [-16], [-16], [3]])

    def test_no_leaf_comes_ahead_of_no_shape_of_pairs(self):
        for numbers in ([], [0], [0, 1], [0, 0], [4294967295] * 20):
            with self.subTest(numbers=numbers):
                self.assertEqual(ask(shape(*numbers)), [[-16]])
                self.assertEqual(ask_last(leaf(0, 0), NEW, shape(*numbers)), [-16])


class Told(unittest.TestCase):
    def test_in_its_own_order_as_it_was(self):
        for numbers in ([0, 1, 4, 2, 5, 3], [2, 3, 0, 1, 4, 5], [2, 3, 1, 4, 0, 5], [3, 1, 2, 4, 5, 0]):
            with self.subTest(numbers=numbers):
                self.assertEqual(ask_last(*some_leaves(4), shape(*numbers), TOLD), [6] + numbers)

    def test_the_first_side_comes_first(self):
        self.assertEqual(ask_last(*some_leaves(4), shape(2, 3, 0, 1, 5, 4), TOLD), [6, 0, 1, 2, 3, 4, 5])

    def test_joints_are_numbered_as_they_come(self):
        found = ask_last(*some_leaves(5), shape(3, 4, 1, 2, 0, 6, 7, 5), TOLD)
        self.assertEqual(found, [8, 1, 2, 0, 5, 3, 4, 6, 7])

    def test_eight_leaves(self):
        found = ask_last(*some_leaves(8), shape(6, 7, 4, 5, 2, 3, 0, 1, 10, 11, 9, 8, 13, 12), TOLD)
        self.assertEqual(found, [14, 4, 5, 6, 7, 8, 9, 2, 3, 0, 1, 11, 12, 10, 13])

    def test_by_the_words(self):
        chance = random.Random(74)
        for n in range(1, 9):
            for again in range(30):
                numbers = random_pairs(chance, n)
                pairs = told_of(n, nested(n, numbers))
                found = ask(*some_leaves(n), shape(*numbers), TOLD, shape(*pairs), TOLD)
                self.assertEqual(found[n:], [[0], [2 * n - 2] + pairs, [0], [2 * n - 2] + pairs], numbers)

    def test_told_twice_is_the_same(self):
        found = ask(*some_leaves(4), shape(2, 3, 0, 1, 5, 4), TOLD, WIRE, TOLD)
        self.assertEqual(found[5], found[7])

    def test_the_same_tree_told_otherwise_comes_to_the_same(self):
        asked = [WIRE] + [joint(k) for k in range(5)]
        one = ask(*some_leaves(5), shape(3, 4, 1, 2, 0, 6, 7, 5), *asked)
        other = ask(*some_leaves(5), shape(1, 2, 0, 5, 3, 4, 6, 7), *asked)
        self.assertEqual(one, other)


if __name__ == "__main__":
    unittest.main()
