"""Promise 6: least, rank and many."""

import itertools
import random
import unittest

from tests.calling import (
    LEAST, MANY, NEW, TOLD, WIRE, all_trees, ask, ask_last, chain, comes_to, in_parts, joint, judge, laid, lay, leaf,
    least_by_words, move, random_case, random_pairs, rank, shape, some_leaves, told_of,
)

COUNTS = [0, 1, 1, 3, 15, 105, 945]

# By hand: of three leaves the ways (0 2 | 1), (0 1 | 2), (0 | 1 2).
THREE_IN_ORDER = [[0, 2, 3, 1], [0, 1, 3, 2], [1, 2, 0, 3]]
FOUR_IN_ORDER = [
    # 0 2 3 | 1
    [0, 3, 4, 2, 5, 1], [0, 2, 4, 3, 5, 1], [2, 3, 0, 4, 5, 1],
    # 0 1 3 | 2
    [0, 3, 4, 1, 5, 2], [0, 1, 4, 3, 5, 2], [1, 3, 0, 4, 5, 2],
    # 0 3 | 1 2
    [0, 3, 1, 2, 4, 5],
    # 0 1 2 | 3
    [0, 2, 4, 1, 5, 3], [0, 1, 4, 2, 5, 3], [1, 2, 0, 4, 5, 3],
    # 0 2 | 1 3
    [0, 2, 1, 3, 4, 5],
    # 0 1 | 2 3
    [0, 1, 2, 3, 4, 5],
    # 0 | 1 2 3
    [1, 3, 4, 2, 0, 5], [1, 2, 4, 3, 0, 5], [2, 3, 1, 4, 0, 5],
]


def put(leaves):
    return [leaf(*one) for one in leaves]


def ask_each(before, calls, behind):
    """For each call its answer, and that to the call behind it, in as many lines as it takes."""
    found = []
    room = (150 - len(before)) // 2
    for at in range(0, len(calls), room):
        line = [one for call in calls[at:at + room] for one in (call, behind)]
        told = ask(*before, *line)[len(before):]
        found += zip(told[::2], told[1::2])
    return found


class Many(unittest.TestCase):
    def test_for_none_to_eight_leaves(self):
        for n in range(9):
            with self.subTest(n=n):
                self.assertEqual(ask_last(*some_leaves(n), MANY), [COUNTS[n]] if n < 7 else [-7])

    def test_needs_no_leaf_and_no_shape(self):
        self.assertEqual(ask(MANY, leaf(0, 0), MANY, shape(), MANY, leaf(0, 0), MANY, NEW, MANY),
                         [[0], [0], [1], [0], [1], [1], [1], [0], [0]])

    def test_leaves_at_one_place_are_told_apart(self):
        self.assertEqual(ask_last(*[leaf(1, 1)] * 4, MANY), [15])

    def test_changes_nothing(self):
        self.assertEqual(ask(*some_leaves(3), MANY, TOLD, shape(1, 2, 0, 3), MANY, TOLD)[4:],
                         [[-16], [0], [3], [4, 1, 2, 0, 3]])
        self.assertEqual(ask(*some_leaves(7), shape(*chain(7)), MANY, TOLD)[8:], [[-7], [12] + chain(7)])


class Rank(unittest.TestCase):
    def test_one_leaf_alone(self):
        self.assertEqual(ask(leaf(3, 4, 5), rank(0), TOLD, rank(1), TOLD)[1:], [[0, 1280], [0], [-2], [0]])

    def test_two_leaves(self):
        self.assertEqual(ask(leaf(0, 0), leaf(10, 4), rank(0), TOLD, rank(1), TOLD)[2:],
                         [[2560, 1280], [2, 0, 1], [-2], [2, 0, 1]])

    def test_three_leaves_in_order(self):
        found = ask_each(some_leaves(3), [rank(k) for k in range(3)], TOLD)
        self.assertEqual([told[1:] for answered, told in found], THREE_IN_ORDER)

    def test_four_leaves_in_order(self):
        found = ask_each(some_leaves(4), [rank(k) for k in range(15)], TOLD)
        self.assertEqual([told[1:] for answered, told in found], FOUR_IN_ORDER)

    def test_each_k_by_the_words(self):
        chance = random.Random(6)
        for n in range(1, 7):
            leaves, numbers = random_case(chance, n, 30, 20)
            trees = all_trees(list(range(n)))
            self.assertEqual(len(trees), COUNTS[n])
            found = ask_each(put(leaves), [rank(k) for k in range(len(trees) + 2)], TOLD)
            for tree, (answered, told) in zip(trees, found):
                pairs = told_of(n, tree)
                time, wire, area = comes_to(leaves, pairs)[-1]
                self.assertEqual(told, [2 * n - 2] + pairs)
                self.assertEqual(answered, [in_parts(wire), in_parts(time)])
            last = [2 * n - 2] + told_of(n, trees[-1])
            self.assertEqual(found[len(trees):], [([-2], last), ([-2], last)])

    def test_the_order_has_nothing_to_do_with_places(self):
        chance = random.Random(66)
        for k in range(15):
            leaves, numbers = random_case(chance, 4, 50, 50)
            self.assertEqual(ask_last(*put(leaves), rank(k), TOLD)[1:], FOUR_IN_ORDER[k])

    def test_in_any_order_of_k_and_again(self):
        found = ask_each(some_leaves(4), [rank(k) for k in (14, 0, 7, 7, 3, 14)], TOLD)
        self.assertEqual([told[1:] for answered, told in found], [FOUR_IN_ORDER[k] for k in (14, 0, 7, 7, 3, 14)])

    def test_there_are_not_so_many(self):
        for n in range(1, 7):
            self.assertEqual(len(ask_last(*some_leaves(n), rank(COUNTS[n] - 1))), 2)
            for k in (COUNTS[n], COUNTS[n] + 1, 946, 4294967295):
                with self.subTest(n=n, k=k):
                    self.assertEqual(ask(*some_leaves(n), rank(k), TOLD)[n:], [[-2], [-16]])

    def test_no_leaf_comes_ahead_of_all_else(self):
        for k in (0, 1, 944, 4294967295):
            with self.subTest(k=k):
                self.assertEqual(ask(rank(k)), [[-16]])
                self.assertEqual(ask_last(leaf(0, 0), NEW, rank(k)), [-16])

    def test_too_many_leaves_comes_ahead_of_not_so_many(self):
        for n in (7, 8):
            for k in (0, 944, 945, 10394, 4294967295):
                with self.subTest(n=n, k=k):
                    self.assertEqual(ask(*some_leaves(n), rank(k), TOLD)[n:], [[-7], [-16]])

    def test_needs_no_shape(self):
        self.assertEqual(ask(*some_leaves(3), TOLD, rank(2), TOLD)[3:][::2], [[-16], [4, 1, 2, 0, 3]])

    def test_refused_changes_nothing(self):
        asked = [TOLD, WIRE, joint(0), joint(1), lay(1, 2), laid(1, 2, 0)]
        before = ask(*some_leaves(3), shape(2, 0, 1, 3), *asked)[4:]
        for k in (3, 4, 15, 4294967295):
            with self.subTest(k=k):
                self.assertEqual(ask(*some_leaves(3), shape(2, 0, 1, 3), rank(k), *asked)[4:], [[-2]] + before)


class Least(unittest.TestCase):
    def test_one_leaf_alone(self):
        asked = [LEAST, TOLD, WIRE, joint(0), lay(3, 6), laid(3, 6, 0), judge()]
        self.assertEqual(ask(leaf(3, 4, 5), *asked)[1:],
                         [[0, 1280], [0], [0, 1280], [-2], [512, 1792], [-2], [0, 1280, 1280]])

    def test_two_leaves(self):
        self.assertEqual(ask(leaf(0, 0, 3), leaf(10, 4), LEAST, TOLD)[2:], [[2560, 1664], [2, 0, 1]])

    def test_three_leaves(self):
        far = (500, 500)
        near = [(0, 0), (3, 3)]
        for at, pairs in enumerate(([1, 2, 0, 3], [0, 2, 3, 1], [0, 1, 3, 2])):
            places = near[:at] + [far] + near[at:]
            with self.subTest(places=places):
                self.assertEqual(ask_last(*put(places), LEAST, TOLD), [4] + pairs)

    def test_not_by_joining_what_is_nearest(self):
        # Leaves 1 and 2 are nearest, but to join these first takes more wire.
        row = [leaf(0, 0), leaf(10, 0), leaf(19, 0), leaf(30, 0)]
        self.assertEqual(ask(*row, LEAST, TOLD)[4:], [[10368, 3840], [6, 0, 1, 2, 3, 4, 5]])
        self.assertEqual(ask_last(*row, shape(1, 2, 0, 4, 5, 3), WIRE), [11264, 3840])
        square = [leaf(2, 5), leaf(-4, 0), leaf(5, -1), leaf(-3, -6)]
        self.assertEqual(ask(*square, LEAST, TOLD)[4:], [[17 * 256, 11 * 128], [6, 0, 2, 1, 3, 4, 5]])

    def test_lateness_counts(self):
        # Without lateness 0 and 1 are joined first; leaf 1 that is late is best joined last.
        calls = [leaf(0, 0), leaf(1, 0), leaf(4, 0)]
        self.assertEqual(ask_last(*calls, LEAST, TOLD), [4, 0, 1, 3, 2])
        self.assertEqual(ask_last(*calls, move(1, 1, 0, 90), LEAST, TOLD), [4, 0, 2, 3, 1])

    def test_of_like_ones_the_first(self):
        for n in range(1, 7):
            with self.subTest(n=n):
                first = told_of(n, all_trees(list(range(n)))[0])
                self.assertEqual(ask(*[leaf(5, -5, 2)] * n, LEAST, TOLD)[n:], [[0, 512], [2 * n - 2] + first])
        # Any two of these are as far apart, so the three shapes have as much wire and time.
        alike = [leaf(0, 0), leaf(8, 8), leaf(8, 0)]
        self.assertEqual(ask(*alike, rank(0), rank(1), rank(2), LEAST, TOLD)[3:],
                         [[12 * 256, 4 * 256]] * 4 + [[4, 0, 2, 3, 1]])

    def test_of_some_like_ones_behind_others_the_first(self):
        # Shapes 1 and 2 of three have as much wire, and less than shape 0.
        calls = [leaf(0, 0), leaf(4, 0), leaf(8, 0)]
        found = ask(*calls, rank(0), rank(1), rank(2), LEAST, TOLD)[3:]
        self.assertEqual(found[1], found[2])
        self.assertGreater(found[0][0], found[1][0])
        self.assertEqual(found[3:], [found[1], [4, 0, 1, 3, 2]])

    def test_by_the_words(self):
        chance = random.Random(666)
        for n in range(1, 7):
            for reach, latest in ((1, 0), (2, 2), (4, 3), (30, 0), (30, 40), (100000, 0), (100000, 100000)):
                for again in range(2 if n == 6 else 6):
                    leaves, numbers = random_case(chance, n, reach, latest)
                    tree, wire, time = least_by_words(leaves)
                    self.assertEqual(ask(*put(leaves), LEAST, TOLD)[n:],
                                     [[in_parts(wire), in_parts(time)], [2 * n - 2] + told_of(n, tree)], leaves)

    def test_no_shape_has_less(self):
        chance = random.Random(7)
        for n in (3, 4, 5, 6):
            leaves, numbers = random_case(chance, n, 9, 6)
            found = [answered for answered, told in
                     ask_each(put(leaves), [LEAST] + [rank(k) for k in range(COUNTS[n])], TOLD)]
            # Less wire goes ahead of less time.
            self.assertEqual(found[0], min(found[1:]))
            for again in range(30):
                pairs = random_pairs(chance, n)
                self.assertGreaterEqual(ask_last(*put(leaves), shape(*pairs), WIRE), found[0])

    def test_of_shapes_with_as_much_wire_none_has_less_time(self):
        chance = random.Random(77)
        for n in (3, 4, 5):
            for again in range(5):
                leaves, numbers = random_case(chance, n, 3, 3)
                found = ask_each(put(leaves), [rank(k) for k in range(COUNTS[n])], TOLD)
                best = min((answered, k) for k, (answered, told) in enumerate(found))
                self.assertEqual(ask(*put(leaves), LEAST, TOLD)[n:], list(found[best[1]]))
                # The two leaves that take longest hold up each shape alike, so time never decides between two shapes.
                self.assertEqual([answered[1] for answered, told in found], [found[0][0][1]] * len(found))

    def test_it_takes_the_place_of_the_shape_that_was_there(self):
        row = [leaf(0, 0), leaf(10, 0), leaf(19, 0), leaf(30, 0)]
        asked = [TOLD, WIRE] + [joint(k) for k in range(4)] + [lay(7, 7), laid(7, 7, 0), laid(7, 7, 2), judge()]
        direct = ask(*row, shape(0, 1, 2, 3, 4, 5), *asked)[5:]
        self.assertEqual(ask(*row, LEAST, *asked)[5:], direct)
        self.assertEqual(ask(*row, shape(1, 2, 0, 4, 5, 3), LEAST, *asked)[6:], direct)
        self.assertEqual(ask(*row, rank(0), LEAST, *asked)[6:], direct)
        self.assertEqual(ask(*row, LEAST, LEAST, *asked)[6:], direct)

    def test_the_shape_stays_when_a_leaf_is_moved(self):
        calls = [leaf(0, 0), leaf(3, 3), leaf(500, 500), LEAST, move(0, 501, 501)]
        self.assertEqual(ask_last(*calls, TOLD), [4, 0, 1, 3, 2])
        self.assertEqual(ask_last(*calls, LEAST, TOLD), [4, 0, 2, 3, 1])

    def test_a_further_leaf_takes_the_shape_away(self):
        for call in (LEAST, rank(0)):
            found = ask(leaf(0, 0), leaf(3, 3), call, leaf(5, 5), TOLD, WIRE, lay(0, 0), laid(0, 0, 0), judge())
            self.assertEqual(found[4:], [[-16]] * 5)

    def test_no_leaf(self):
        self.assertEqual(ask(LEAST), [[-16]])
        self.assertEqual(ask(leaf(0, 0), LEAST, NEW, LEAST, TOLD)[3:], [[-16], [-16]])

    def test_six_seven_and_eight_leaves(self):
        self.assertEqual(len(ask_last(*some_leaves(6), LEAST)), 2)
        for n in (7, 8):
            with self.subTest(n=n):
                self.assertEqual(ask(*some_leaves(n), LEAST, TOLD)[n:], [[-7], [-16]])

    def test_refused_changes_nothing(self):
        for n in (7, 8):
            asked = [TOLD, WIRE, joint(0), joint(5), lay(4, 4), laid(4, 4, 3)]
            before = ask(*some_leaves(n), shape(*chain(n)), *asked)[n + 1:]
            self.assertEqual(before[0], [2 * n - 2] + chain(n))
            for call in (LEAST, rank(0), MANY):
                with self.subTest(n=n, call=call):
                    self.assertEqual(ask(*some_leaves(n), shape(*chain(n)), call, *asked)[n + 1:], [[-7]] + before)

    def test_the_order_of_the_leaves_makes_no_difference_to_wire_and_time(self):
        places = [(0, 0, 4), (7, -2, 0), (-9, 3, 1), (5, 5, 0)]
        found = [ask_last(*put(order), LEAST) for order in itertools.permutations(places)]
        self.assertEqual(found, found[:1] * 24)


if __name__ == "__main__":
    unittest.main()
