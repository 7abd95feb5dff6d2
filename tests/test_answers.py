"""The interface, and what stands ahead of promise 1: -16."""

import unittest

from samemomentdesk.wires import answers
from tests.calling import LEAST, MANY, NEW, TOLD, WIRE, ask, joint, judge, laid, lay, leaf, move, rank, shape


class Untouchable(list):
    """A list that can be read alone."""

    def refuse(self, *given):
        raise AssertionError("the list handed in was changed")

    append = clear = extend = insert = pop = remove = reverse = sort = refuse
    __setitem__ = __delitem__ = __iadd__ = __imul__ = refuse


class Interface(unittest.TestCase):
    def test_each_answer_has_its_count_ahead(self):
        calls = [0, 1, 0, 0, 0, 1, 10, 4, 0, 3, 2, 0, 1, 4, 5, 6, 0, 2, 1, 20, 4, 2, 5, 6, 1]
        self.assertEqual(answers(calls), [
            1, 0,
            1, 0,
            1, 1,
            1, 0,
            3, 2, 0, 1,
            2, 2560, 1280,
            6, 1280, 2560, 1280, 1280, -256, 1280,
            1, 0,
            2, 5120, 2816,
            1, -2,
        ])

    def test_each_answer_of_the_later_calls_has_its_count_ahead(self):
        calls = [12, 1, 0, 0, 0, 1, 10, 4, 0, 10, 4, 7, 5, 6, 8, 5, 6, 0, 9, 4, 1280, 512, 1280, 1300, 11, 0, 12,
                 7, 100001, 0, 8, 0, 0, 1, 9, 0, 9, 4, 0, 0, 0, 0, 11, 1, 4]
        self.assertEqual(answers(calls), [
            1, 0,
            1, 0,
            1, 1,
            2, 2560, 1280,
            3, 2, 0, 1,
            2, 2816, 1536,
            5, 0, 1280, 1280, 1280, 1280,
            3, 2580, 1280, 1300,
            2, 2560, 1280,
            1, 1,
            1, -22,
            1, -2,
            1, -22,
            1, -33,
            1, -2,
            3, 2, 0, 1,
        ])

    def test_a_single_call(self):
        self.assertEqual(answers([0]), [1, 0])
        self.assertEqual(answers([1, 5, -5, 5]), [1, 0])
        self.assertEqual(answers([4]), [1, -16])
        self.assertEqual(answers([12]), [1, 0])
        self.assertEqual(answers([10]), [1, -16])

    def test_a_row_is_passed_over_whole_when_refused(self):
        self.assertEqual(answers([3, 0, 0]), [1, -16, 1, 0])
        self.assertEqual(answers([3, 3, 1, 1, 1, 0]), [1, -16, 1, 0])
        self.assertEqual(answers([1, 0, 0, 0, 3, 20] + [5] * 20 + [4]), [1, 0, 1, -22, 1, -16])
        self.assertEqual(answers([1, 0, 0, 0, 3, 0, 4]), [1, 0, 1, 0, 1, 0])
        self.assertEqual(answers([9, 0, 12]), [1, -16, 1, 0])
        self.assertEqual(answers([9, 40] + [5] * 40 + [12]), [1, -16, 1, 0])
        self.assertEqual(answers([1, 0, 0, 0, 10, 9, 3, 7, 7, 7, 9, 0, 12]), [1, 0, 2, 0, 0, 1, -22, 3, 0, 0, 0, 1, 1])

    def test_numbers_of_refused_calls_are_passed_over(self):
        self.assertEqual(answers([2, 0, 0, 0, 0, 6, 0, 1, 200000, 0, 0, 1, 0, 0, 0]), [1, -2, 1, -16, 1, -22, 1, 0])

    def test_a_line_of_150_calls(self):
        calls = [leaf(k, -k, k) for k in range(8)]
        calls.append(shape(0, 1, 2, 3, 4, 5, 6, 7, 8, 9, 10, 11, 12, 13))
        calls += [joint(k % 7) for k in range(141)]
        found = ask(*calls)
        self.assertEqual(len(found), 150)
        self.assertTrue(all(len(numbers) == 6 for numbers in found[9:]))
        self.assertEqual(found[9], found[16])

    def test_the_list_handed_in_stays_as_it_was(self):
        calls = [1, 0, 0, 0, 1, 5, 5, 5, 3, 2, 1, 0, 4, 5, 3, 2, 0, 0, 6, 0, 2, 0, 9, 9, 9, 7, 3, 3, 8, 3, 3, 0,
                 9, 4, 0, 0, 9999, 9999, 9, 1, 0, 10, 11, 0, 11, 1, 12, 0]
        kept = list(calls)
        told = answers(calls)
        self.assertEqual(calls, kept)
        # Not for a while either.
        self.assertEqual(answers(Untouchable(calls)), told)

    def test_a_second_time_knows_nothing_of_the_first(self):
        first = [1, 0, 0, 0, 1, 5, 5, 5, 3, 2, 1, 0, 5]
        told = answers(first)
        self.assertEqual(answers([4, 5]), [1, -16, 1, -16])
        self.assertEqual(answers([2, 0, 0, 0, 0]), [1, -2])
        self.assertEqual(answers([3, 2, 1, 0]), [1, -16])
        self.assertEqual(answers([1, 7, 7, 7]), [1, 0])
        self.assertEqual(answers(first), told)

    def test_what_was_given_back_may_be_changed(self):
        first = [1, 0, 0, 0, 1, 5, 5, 5, 3, 2, 1, 0, 4]
        told = answers(first)
        kept = list(told)
        told.clear()
        self.assertEqual(answers(first), kept)


class NothingYet(unittest.TestCase):
    def test_no_leaf(self):
        asked = [TOLD, WIRE, joint(0), lay(0, 0), laid(0, 0, 0), judge(), LEAST, rank(0)]
        self.assertEqual(ask(shape(), *asked), [[-16]] * 9)
        self.assertEqual(ask(NEW, shape(0, 1), *asked), [[0]] + [[-16]] * 9)

    def test_no_shape(self):
        asked = [TOLD, WIRE, joint(0), lay(0, 0), laid(0, 0, 0), judge()]
        found = ask(leaf(0, 0), *asked, leaf(1, 1), *asked)
        self.assertEqual(found, [[0]] + [[-16]] * 6 + [[1]] + [[-16]] * 6)

    def test_least_and_rank_need_no_shape(self):
        self.assertEqual(ask(leaf(0, 0), LEAST)[1:], [[0, 0]])
        self.assertEqual(ask(leaf(0, 0), rank(0))[1:], [[0, 0]])

    def test_no_shape_comes_ahead_of_no_such_joint(self):
        for k in (0, 1, 7, 4294967295):
            with self.subTest(k=k):
                self.assertEqual(ask(joint(k)), [[-16]])
                self.assertEqual(ask(leaf(0, 0), leaf(1, 1), joint(k))[2:], [[-16]])

    def test_new_leaf_move_and_many_need_nothing(self):
        self.assertEqual(ask(NEW), [[0]])
        self.assertEqual(ask(MANY), [[0]])
        self.assertEqual(ask(leaf(0, 0)), [[0]])
        self.assertEqual(ask(move(0, 0, 0)), [[-2]])
        self.assertEqual(ask(leaf(0, 0), move(0, 1, 1)), [[0], [0]])

    def test_refused_changes_nothing(self):
        found = ask(shape(0, 1), TOLD, WIRE, joint(0), leaf(0, 0), leaf(10, 4), TOLD, shape(0, 1), WIRE)
        self.assertEqual(found[4:], [[0], [1], [-16], [0], [2560, 1280]])


if __name__ == "__main__":
    unittest.main()
