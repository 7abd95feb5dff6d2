"""Promise 1: new, leaf and move."""

import unittest

from tests.calling import NEW, TOLD, WIRE, ask, ask_last, joint, leaf, move, shape

# Places and lateness at the edge of what a leaf may have, and beyond it.
ALLOWED = [
    (100000, 0, 0), (-100000, 0, 0), (0, 100000, 0), (0, -100000, 0), (0, 0, 100000),
    (100000, -100000, 100000), (-100000, 100000, 100000), (1, 2, 3),
]
REFUSED = [
    (100001, 0, 0), (-100001, 0, 0), (0, 100001, 0), (0, -100001, 0), (0, 0, 100001),
    (2147483647, 0, 0), (-2147483648, 0, 0), (0, 2147483647, 0), (0, -2147483648, 0), (0, 0, 4294967295),
    (100001, 100001, 100001), (100001, -100001, 0), (-100001, 100001, 0),
]

EIGHT = [leaf(k, -k, k) for k in range(8)]
CHAIN_OF_EIGHT = shape(0, 1, 8, 2, 9, 3, 10, 4, 11, 5, 12, 6, 13, 7)


class New(unittest.TestCase):
    def test_answers_nought(self):
        self.assertEqual(ask(NEW), [[0]])
        self.assertEqual(ask(NEW, NEW), [[0], [0]])

    def test_takes_all_leaves_away(self):
        self.assertEqual(ask_last(leaf(1, 2), leaf(3, 4), NEW, leaf(5, 6)), [0])
        self.assertEqual(ask_last(leaf(1, 2), NEW, move(0, 1, 2)), [-2])
        self.assertEqual(ask_last(leaf(1, 2), NEW, shape()), [-16])

    def test_takes_the_shape_away(self):
        self.assertEqual(ask(leaf(1, 2), shape(), NEW, TOLD, WIRE, joint(0))[3:], [[-16], [-16], [-16]])

    def test_the_shape_does_not_come_back_with_a_leaf(self):
        self.assertEqual(ask(leaf(1, 2), shape(), NEW, leaf(1, 2), TOLD, WIRE)[4:], [[-16], [-16]])

    def test_makes_room_for_eight_again(self):
        found = ask(*EIGHT, NEW, *EIGHT, leaf(0, 0))
        self.assertEqual(found[9:], [[k] for k in range(8)] + [[-28]])


class Leaf(unittest.TestCase):
    def test_answers_its_number(self):
        self.assertEqual(ask(leaf(5, 6, 7), leaf(-5, -6), leaf(5, 6, 7)), [[0], [1], [2]])

    def test_the_eighth_is_taken_and_the_ninth_refused(self):
        found = ask(*EIGHT, leaf(0, 0), leaf(1, 1, 1))
        self.assertEqual(found, [[k] for k in range(8)] + [[-28], [-28]])

    def test_at_the_edge(self):
        for s, t, late in ALLOWED:
            with self.subTest(s=s, t=t, late=late):
                found = ask(leaf(s, t, late), shape(), WIRE, leaf(0, 0), shape(0, 1), WIRE)
                self.assertEqual(found[0], [0])
                self.assertEqual(found[2], [0, 256 * late])
                self.assertEqual(found[3:5], [[1], [0]])

    def test_beyond_the_edge(self):
        for s, t, late in REFUSED:
            with self.subTest(s=s, t=t, late=late):
                self.assertEqual(ask(leaf(s, t, late), leaf(0, 0)), [[-22], [0]])

    def test_beyond_the_edge_comes_ahead_of_no_room(self):
        for s, t, late in REFUSED:
            with self.subTest(s=s, t=t, late=late):
                self.assertEqual(ask_last(*EIGHT, leaf(s, t, late)), [-22])

    def test_takes_the_shape_away(self):
        found = ask(leaf(1, 2), leaf(3, 4), shape(0, 1), leaf(5, 6), TOLD, WIRE, joint(0))
        self.assertEqual(found[3:], [[2], [-16], [-16], [-16]])

    def test_refused_changes_nothing(self):
        two = [leaf(0, 0, 3), leaf(10, 4), shape(1, 0)]
        before = ask(*two, TOLD, WIRE, joint(0))[3:]
        for s, t, late in REFUSED:
            with self.subTest(s=s, t=t, late=late):
                found = ask(*two, leaf(s, t, late), TOLD, WIRE, joint(0), leaf(1, 1))
                self.assertEqual(found[3:], [[-22]] + before + [[2]])

    def test_ninth_changes_nothing(self):
        asked = [TOLD, WIRE] + [joint(k) for k in range(8)]
        before = ask(*EIGHT, CHAIN_OF_EIGHT, *asked)[8:]
        found = ask(*EIGHT, CHAIN_OF_EIGHT, leaf(9, 9, 9), *asked)
        self.assertEqual(found[9], [-28])
        self.assertEqual(found[8:9] + found[10:], before)


class Move(unittest.TestCase):
    def test_that_leaf_is_so(self):
        for k in range(3):
            with self.subTest(k=k):
                places = [(0, 0, 0), (10, 4, 1), (-7, 20, 2)]
                calls = [leaf(*place) for place in places] + [move(k, 33, -21, 5)]
                places[k] = (33, -21, 5)
                direct = [leaf(*place) for place in places]
                asked = [shape(0, 1, 3, 2), WIRE, joint(0), joint(1)]
                found = ask(*calls, *asked)
                self.assertEqual(found[3], [0])
                self.assertEqual(found[4:], ask(*direct, *asked)[3:])

    def test_keeps_the_shape(self):
        found = ask(leaf(0, 0), leaf(10, 4), shape(1, 0), move(1, 20, 4, 2), TOLD, WIRE, joint(0))
        self.assertEqual(found[3:], [
            [0],
            [2, 1, 0],
            [20 * 256, 11 * 256],
            [11 * 256, 20 * 256, 11 * 256, 11 * 256, -5 * 256, 11 * 256],
        ])

    def test_keeps_the_number_of_leaves(self):
        self.assertEqual(ask(leaf(0, 0), leaf(1, 1), move(0, 2, 2), leaf(3, 3))[2:], [[0], [2]])

    def test_no_such_leaf(self):
        self.assertEqual(ask(move(0, 1, 1)), [[-2]])
        for k in (2, 3, 8, 4294967295):
            with self.subTest(k=k):
                self.assertEqual(ask_last(leaf(0, 0), leaf(1, 1), move(k, 1, 1)), [-2])

    def test_the_last_of_eight(self):
        self.assertEqual(ask(*EIGHT, move(7, 1, 1), move(8, 1, 1))[8:], [[0], [-2]])

    def test_at_the_edge(self):
        for s, t, late in ALLOWED:
            with self.subTest(s=s, t=t, late=late):
                found = ask(leaf(0, 0), leaf(1, 1), shape(0, 1), move(1, s, t, late), WIRE, joint(0))
                direct = ask(leaf(0, 0), leaf(s, t, late), shape(0, 1), WIRE, joint(0))
                self.assertEqual(found[3:], [[0]] + direct[3:])

    def test_beyond_the_edge_changes_nothing(self):
        two = [leaf(0, 0, 3), leaf(10, 4), shape(1, 0)]
        before = ask(*two, TOLD, WIRE, joint(0))[3:]
        for s, t, late in REFUSED:
            with self.subTest(s=s, t=t, late=late):
                found = ask(*two, move(1, s, t, late), TOLD, WIRE, joint(0))
                self.assertEqual(found[3:], [[-22]] + before)

    def test_no_such_leaf_comes_ahead_of_beyond_the_edge(self):
        for s, t, late in REFUSED:
            with self.subTest(s=s, t=t, late=late):
                self.assertEqual(ask(move(0, s, t, late)), [[-2]])
                self.assertEqual(ask_last(leaf(0, 0), move(1, s, t, late)), [-2])

    def test_no_such_leaf_changes_nothing(self):
        two = [leaf(0, 0, 3), leaf(10, 4), shape(1, 0)]
        before = ask(*two, TOLD, WIRE, joint(0))[3:]
        found = ask(*two, move(2, 50, 50, 50), TOLD, WIRE, joint(0), leaf(0, 0))
        self.assertEqual(found[3:], [[-2]] + before + [[2]])


if __name__ == "__main__":
    unittest.main()
