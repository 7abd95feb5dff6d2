"""Promise 5: judge."""

import random
import unittest

from tests.calling import (
    NEW, TOLD, WIRE, ask, ask_last, chain, joint, judge, judge_by_words, lay, leaf, move, random_case, shape,
    some_leaves,
)

TWO = [leaf(0, 0), leaf(10, 4), shape(0, 1)]
# Joint 0 is that of leaves 0 and 1, joint 1 that of leaves 2 and 3, though they are told the other way round.
FOUR = [leaf(0, 0), leaf(10, 4, 2), leaf(100, 0, 7), leaf(100, 40), shape(2, 3, 0, 1, 5, 4)]
# Each wire is just as long as from end to end.
FITTING = [
    1280, 500, 1280, 1280,
    20000, 5000, 5600, 5600,
    12000, 3000, 10720, 8000,
]


class Judge(unittest.TestCase):
    def test_everywhere_at_the_same_moment(self):
        self.assertEqual(ask_last(*TWO, judge(1280, 512, 1280, 1280)), [2560, 1280, 1280])

    def test_longer_wires(self):
        self.assertEqual(ask_last(*TWO, judge(1280, 512, 1281, 1280)), [2561, 1280, 1281])
        self.assertEqual(ask_last(*TWO, judge(1280, 512, 1280, 1300)), [2580, 1280, 1300])
        self.assertEqual(ask_last(*TWO, judge(1280, 512, 9000, 5000)), [14000, 5000, 9000])

    def test_places_outside_the_area(self):
        self.assertEqual(ask_last(*TWO, judge(0, 0, 0, 2560)), [2560, 0, 2560])
        self.assertEqual(ask_last(*TWO, judge(2560, 1024, 2560, 0)), [2560, 0, 2560])
        self.assertEqual(ask_last(*TWO, judge(1, 0, 1, 2559)), [2560, 1, 2559])
        self.assertEqual(ask_last(*TWO, judge(-5000, 3000, 5000, 7560)), [12560, 5000, 7560])

    def test_the_first_sides_wire_comes_first(self):
        leaves = [leaf(0, 0), leaf(10, 4)]
        self.assertEqual(ask_last(*leaves, shape(0, 1), judge(256, 0, 256, 2304)), [2560, 256, 2304])
        self.assertEqual(ask_last(*leaves, shape(1, 0), judge(256, 0, 256, 2304)), [-33])
        self.assertEqual(ask_last(*leaves, shape(1, 0), judge(256, 0, 2304, 256)), [2560, 256, 2304])

    def test_the_sum_comes_ahead_of_the_difference(self):
        self.assertEqual(ask_last(leaf(10, 0), leaf(10, 0), shape(0, 1), judge(2560, 0, 0, 0)), [0, 0, 0])
        self.assertEqual(ask_last(leaf(10, 0), leaf(10, 0), shape(0, 1), judge(0, 2560, 0, 0)), [-33])

    def test_lateness_counts(self):
        leaves = [leaf(0, 0, 3), leaf(10, 4), shape(0, 1)]
        self.assertEqual(ask_last(*leaves, judge(896, 0, 896, 1664)), [2560, 1664, 1664])
        self.assertEqual(ask_last(*leaves, judge(1280, 0, 1280, 1280)), [2560, 1280, 2048])
        self.assertEqual(ask_last(leaf(0, 0, 100000), leaf(0, 0), shape(0, 1), judge(0, 0, 0, 0)), [0, 0, 25600000])

    def test_one_leaf_alone(self):
        self.assertEqual(ask_last(leaf(3, 4), shape(), judge()), [0, 0, 0])
        self.assertEqual(ask_last(leaf(3, 4, 5), shape(), judge()), [0, 1280, 1280])
        self.assertEqual(ask_last(leaf(3, 4, 5), shape(), judge(0)), [-22])
        self.assertEqual(ask_last(leaf(3, 4, 5), shape(), judge(768, 1024, 0, 0)), [-22])

    def test_moments_are_counted_from_the_root(self):
        # Leaf 0 is late by 10 behind wires of 4 and 3, leaf 1 behind 4 and 5, leaf 2 behind 30 alone.
        calls = [leaf(0, 0, 10), leaf(0, 0), leaf(0, 0), shape(0, 1, 3, 2)]
        self.assertEqual(ask_last(*calls, judge(0, 0, 3, 5, 0, 0, 4, 30)), [42, 9, 2567])
        self.assertEqual(ask_last(*calls, judge(0, 0, 3, 5, 0, 0, 4, 8)), [20, 8, 2567])
        self.assertEqual(ask_last(*calls, judge(0, 0, 3, 5, 0, 0, 4, 9999)), [10011, 9, 9999])

    def test_in_the_order_of_the_joints_not_of_the_pairs(self):
        self.assertEqual(ask_last(*FOUR, judge(*FITTING)), [
            1280 + 1280 + 5600 + 5600 + 10720 + 8000,
            10720 + 1280,
            8000 + 5600 + 7 * 256,
        ])

    def test_one_part_shorter_than_from_end_to_end(self):
        self.assertEqual(len(ask_last(*FOUR, judge(*FITTING))), 3)
        for at in (2, 3, 6, 7, 10, 11):
            numbers = list(FITTING)
            numbers[at] -= 1
            with self.subTest(at=at):
                self.assertEqual(ask_last(*FOUR, judge(*numbers)), [-33])

    def test_one_too_short_and_others_too_long(self):
        for at in (2, 3, 6, 7, 10, 11):
            numbers = [one + 50000 * (k % 4 > 1) for k, one in enumerate(FITTING)]
            numbers[at] = FITTING[at] - 1
            with self.subTest(at=at):
                self.assertEqual(ask_last(*FOUR, judge(*numbers)), [-33])

    def test_a_place_one_part_farther_off(self):
        self.assertEqual(len(ask_last(*TWO, judge(1280, -256, 1280, 1280))), 3)
        self.assertEqual(len(ask_last(*TWO, judge(1280, 1280, 1280, 1280))), 3)
        for s, t in ((1281, 0), (1279, 0), (1280, -257), (1280, 1281)):
            with self.subTest(s=s, t=t):
                self.assertEqual(ask_last(*TWO, judge(s, t, 1280, 1280)), [-33])

    def test_a_wire_of_no_length(self):
        same = [leaf(3, 4), leaf(3, 4), shape(0, 1)]
        self.assertEqual(ask_last(*same, judge(768, 1024, 0, 0)), [0, 0, 0])
        self.assertEqual(ask_last(*same, judge(768, 1024, -1, 0)), [-33])
        self.assertEqual(ask_last(*same, judge(768, 1024, 0, -1)), [-33])
        self.assertEqual(ask_last(*same, judge(768, 1024, -1000000000, 1000000000)), [-33])

    def test_lateness_makes_no_wire_longer(self):
        self.assertEqual(ask_last(leaf(0, 0, 50), leaf(10, 4), shape(0, 1), judge(1280, 0, 1279, 1280)), [-33])

    def test_the_greatest_numbers(self):
        same = [leaf(0, 0), leaf(0, 0), leaf(0, 0), shape(0, 1, 3, 2)]
        far = 1000000000
        self.assertEqual(ask_last(*same, judge(far, -far, far, far, 0, 0, far, far)), [4 * far, far, 2 * far])
        self.assertEqual(ask_last(*same, judge(far, -far, far, far, -far, far, far, far)), [-33])

    def test_not_four_for_each_joint(self):
        for count in range(41):
            numbers = [0, 0, 10 ** 9, 10 ** 9] * 10
            with self.subTest(count=count):
                for n in range(1, 9):
                    refused = ask_last(*some_leaves(n), shape(*chain(n)), judge(*numbers[:count])) == [-22]
                    self.assertEqual(refused, count != 4 * (n - 1))

    def test_not_so_many_comes_ahead_of_too_short(self):
        for count in (0, 1, 2, 3, 5, 8, 40):
            with self.subTest(count=count):
                self.assertEqual(ask_last(*TWO, judge(*[-1] * count)), [-22])
        self.assertEqual(ask_last(*TWO, judge(*[-1] * 4)), [-33])

    def test_no_shape_comes_ahead_of_all_else(self):
        for numbers in ([], [0], [0] * 4, [-1] * 4, [0] * 40, [1280, 512, 1280, 1280]):
            with self.subTest(numbers=numbers):
                self.assertEqual(ask(judge(*numbers)), [[-16]])
                self.assertEqual(ask_last(leaf(0, 0), judge(*numbers)), [-16])
                self.assertEqual(ask_last(leaf(0, 0), leaf(10, 4), judge(*numbers)), [-16])
                self.assertEqual(ask_last(*TWO, leaf(5, 5), judge(*numbers)), [-16])
                self.assertEqual(ask_last(*TWO, NEW, judge(*numbers)), [-16])

    def test_changes_nothing(self):
        asked = [TOLD, WIRE, joint(0), joint(1), joint(2), lay(1, 1), judge(*FITTING)]
        before = ask(*FOUR, *asked)[5:]
        for numbers in (FITTING, FITTING[:11], [-1] * 12, [], [1] * 40):
            with self.subTest(numbers=numbers):
                self.assertEqual(ask(*FOUR, judge(*numbers), *asked)[6:], before)

    def test_a_moved_leafs_end_is_where_it_was_moved_to(self):
        found = ask(*TWO, move(1, 12, 4, 6), judge(1280, 512, 1280, 1280), judge(1280, 512, 1280, 1792))
        self.assertEqual(found[4:], [[-33], [3072, 1280, 1792 + 6 * 256]])

    def test_by_the_words(self):
        chance = random.Random(55)
        seen = {}
        for n in range(1, 9):
            for again in range(60):
                leaves, numbers = random_case(chance, n, 6, 5)
                calls = [leaf(*one) for one in leaves] + [shape(*numbers)]
                pairs = ask_last(*calls, TOLD)[1:]
                low = chance.choice([1000, 2200, 3200])
                told = []
                for k in range(n - 1):
                    told += [chance.randint(-1600, 1600), chance.randint(-1600, 1600)]
                    told += [chance.randint(low, 6000), chance.randint(low, 6000)]
                expected = judge_by_words(leaves, pairs, told)
                self.assertEqual(ask_last(*calls, judge(*told)), expected, (leaves, pairs, told))
                seen[len(expected)] = seen.get(len(expected), 0) + 1
        # Both such that are refused and such that are not.
        self.assertGreater(min(seen[1], seen[3]), 50)


if __name__ == "__main__":
    unittest.main()
