"""What holds over the whole program, and lists of calls in any order."""

import random
import unittest
from fractions import Fraction

from samemomentdesk.wires import answers
from tests.calling import (
    LEAST, MANY, NEW, TOLD, WIRE, all_trees, apart, ask, ask_last, chain, comes_to, in_parts, is_told_so, joint, judge,
    judge_by_words, laid, laid_by_words, lay, lay_by_words, leaf, least_by_words, move, nested, random_case,
    random_pairs, rank, shape, told_of,
)


class ByWords:
    """The calls as the words tell them."""

    def __init__(self):
        self.leaves = []
        self.pairs = None

    def answer(self, call):
        number, given = call[0], call[1:]
        if number in (3, 9):
            given = given[1:]
        n = len(self.leaves)
        if number in (3, 10, 11) and n == 0 or number in (4, 5, 6, 7, 8, 9) and self.pairs is None:
            return [-16]
        if number < 4:
            return self.change(number, given, n)
        if number < 10:
            return self.tell(number, given, n)
        return self.choose(number, given, n)

    def change(self, number, given, n):
        if number == 0:
            self.leaves, self.pairs = [], None
            return [0]
        if number == 2:
            if given[0] >= n:
                return [-2]
        if number == 3:
            if not is_told_so(n, given):
                return [-22]
            self.pairs = told_of(n, nested(n, given))
            return [0]
        s, t, late = given[-3:]
        if not (-100000 <= s <= 100000 and -100000 <= t <= 100000 and late <= 100000):
            return [-22]
        if number == 2:
            self.leaves[given[0]] = (s, t, late)
            return [0]
        if n == 8:
            return [-28]
        self.leaves.append((s, t, late))
        self.pairs = None
        return [n]

    def tell(self, number, given, n):
        found = comes_to(self.leaves, self.pairs)
        if number == 4:
            return [len(self.pairs)] + self.pairs
        if number == 5:
            return self.wire_and_time()
        if number == 6:
            if given[0] >= n - 1:
                return [-2]
            time, wire, area = found[n + given[0]]
            return [in_parts(one) for one in (time, wire, *area)]
        if number == 9:
            return judge_by_words(self.leaves, self.pairs, given)
        place = tuple(given[:2])
        if max(place) > 100000 or min(place) < -100000:
            return [-22]
        if number == 7:
            return [in_parts(one) for one in lay_by_words(self.leaves, self.pairs, place)]
        if given[2] >= n - 1:
            return [-2]
        return [0] + [in_parts(one) for one in laid_by_words(self.leaves, self.pairs, place)[given[2]]]

    def choose(self, number, given, n):
        if n > 6:
            return [-7]
        trees = all_trees(list(range(n))) if n else []
        if number == 12:
            return [len(trees)]
        if number == 11 and given[0] >= len(trees):
            return [-2]
        tree = trees[given[0]] if number == 11 else least_by_words(self.leaves)[0]
        self.pairs = told_of(n, tree)
        return self.wire_and_time()

    def wire_and_time(self):
        time, wire, area = comes_to(self.leaves, self.pairs)[-1]
        return [in_parts(wire), in_parts(time)]


def random_number(chance, reach):
    if chance.random() < 0.04:
        return chance.choice([100000, -100000, 100001, -100001, 2147483647, -2147483648])
    return chance.randint(-reach, reach)


def random_index(chance, few):
    if chance.random() < 0.04:
        return chance.choice([8, 100, 945, 4294967295])
    return chance.randrange(few)


def random_late(chance):
    if chance.random() < 0.03:
        return chance.choice([100000, 100001, 4294967295])
    return chance.choice([0, 0, chance.randrange(30)])


def random_row(chance, known):
    """Judge's numbers: mostly those of the tree as it is laid out, some of them made longer, shorter or lost."""
    numbers = []
    if known.pairs is not None:
        place = (chance.randint(-20, 20), chance.randint(-20, 20))
        for row in laid_by_words(known.leaves, known.pairs, place):
            numbers += [in_parts(one) for one in row]
    if numbers and chance.random() < 0.4:
        numbers[chance.randrange(len(numbers))] += chance.choice([-1, 1, -300, 300])
    if chance.random() < 0.1:
        numbers = numbers[1:]
    return numbers


def random_call(chance, known):
    """Some call; known is what the words have come to so far."""
    n = len(known.leaves)
    s, t = random_number(chance, 20), random_number(chance, 20)
    number = chance.choice([1, 1, 2, 3, 3, 4, 5, 6, 7, 8, 8, 9, 9, 10, 11, 11, 12])
    if chance.random() < 0.01:
        return NEW
    if number == 1:
        # Often enough there are to be few leaves for a while.
        if n > 2 and chance.random() < 0.6:
            return WIRE
        return leaf(s, t, random_late(chance))
    if number == 2:
        return move(random_index(chance, n + 1), s, t, random_late(chance))
    if number == 3:
        pairs = random_pairs(chance, max(n, 1))
        if chance.random() < 0.15:
            pairs = [random_index(chance, 2 * n + 1) for one in pairs] + [0] * chance.randrange(3)
        return shape(*pairs)
    if number == 6:
        return joint(random_index(chance, max(n, 1)))
    if number == 7:
        return lay(s, t)
    if number == 8:
        return laid(s, t, random_index(chance, max(n, 1)))
    if number == 9:
        return judge(*random_row(chance, known))
    if number == 11:
        return rank(chance.choice([0, 2, 14, 15, 104, 944, random_index(chance, 1000)]))
    return [number]


class AnyOrder(unittest.TestCase):
    def test_lists_of_up_to_150_calls(self):
        chance = random.Random(74)
        seen = {}
        for again in range(50):
            known = ByWords()
            calls = []
            expected = []
            for k in range(chance.choice([1, 20, 150, 150])):
                calls.append(random_call(chance, known))
                expected.append(known.answer(calls[-1]))
                key = (calls[-1][0], min(expected[-1][0], 0))
                seen[key] = seen.get(key, 0) + 1
            self.assertEqual(ask(*calls), expected)
        # Each call came to be answered, and each of its refusals came up.
        refusals = {0: [], 1: [-22, -28], 2: [-2, -22], 3: [-16, -22], 4: [-16], 5: [-16], 6: [-16, -2],
                    7: [-16, -22], 8: [-16, -22, -2], 9: [-16, -22, -33], 10: [-16, -7], 11: [-16, -7, -2], 12: [-7]}
        self.assertEqual(sorted(seen), sorted((number, one) for number in refusals for one in [0] + refusals[number]))

    def test_150_calls_that_take_longest(self):
        six = [leaf(7 * k * k, -k, 3 * k) for k in range(6)]
        found = ask(*six, *[LEAST] * 144)
        self.assertEqual(found[6:], found[6:7] * 144)
        found = ask(*six, *[rank(944)] * 144)
        self.assertEqual(found[6:], found[6:7] * 144)

    def test_the_list_handed_in_stays_as_it_was(self):
        calls = [number for call in (
            leaf(0, 0), leaf(10, 4), leaf(5, 5), LEAST, TOLD, lay(3, 3), laid(3, 3, 0), judge(*[0] * 8), judge(1, 2),
            rank(1), MANY, rank(7), lay(100001, 0), shape(0, 1, 3, 2), WIRE, NEW, MANY) for number in call]
        kept = list(calls)
        answers(calls)
        self.assertEqual(calls, kept)

    def test_a_second_time_knows_nothing_of_the_first(self):
        first = [leaf(0, 0), leaf(10, 4), leaf(5, 30), LEAST, TOLD, lay(1, 1), laid(1, 1, 1), rank(0), TOLD, MANY]
        told = ask(*first)
        self.assertEqual(ask(LEAST, rank(0), lay(0, 0), laid(0, 0, 0), judge(), TOLD, MANY), [[-16]] * 6 + [[0]])
        # As many leaves, but elsewhere.
        self.assertEqual(ask(leaf(0, 0), leaf(50, 4), leaf(1, 0), LEAST, TOLD)[4], [4, 0, 2, 3, 1])
        self.assertEqual(ask(leaf(9, 9), MANY, LEAST)[1:], [[1], [0, 0]])
        self.assertEqual(ask(*first), told)


class LaidOut(unittest.TestCase):
    def assert_holds(self, leaves, calls, place):
        """The calls put the leaves and a shape there."""
        n = len(leaves)
        wire, time = ask_last(*calls, WIRE)
        rows = ask(*calls, *[laid(*place, k) for k in range(n - 1)])[len(calls):]
        numbers = [number for row in rows for number in row[1:]]
        # Long enough, everywhere at the same moment, with as much wire and time as was told.
        self.assertEqual(ask_last(*calls, judge(*numbers)), [wire, time, time], (leaves, place))
        start = (256 * place[0], 256 * place[1])
        root = numbers[-4:-2] if n > 1 else [256 * leaves[0][0], 256 * leaves[0][1]]
        trunk = apart(start, root)
        self.assertEqual(ask_last(*calls, lay(*place)), [wire + trunk, time + trunk])

    def test_each_shape_from_anywhere(self):
        chance = random.Random(8)
        for n in range(1, 9):
            for reach, latest in ((2, 0), (9, 5), (9, 40), (100000, 0), (100000, 100000)):
                for again in range(8):
                    leaves, pairs = random_case(chance, n, reach, latest)
                    place = (chance.randint(-reach, reach), chance.randint(-reach, reach))
                    self.assert_holds(leaves, [leaf(*one) for one in leaves] + [shape(*pairs)], place)

    def test_the_shapes_that_least_and_rank_take(self):
        chance = random.Random(9)
        for n in range(1, 7):
            for call in (LEAST, rank(0), rank([0, 0, 0, 2, 14, 104, 944][n])):
                leaves, pairs = random_case(chance, n, 30, 20)
                place = (chance.randint(-50, 50), chance.randint(-50, 50))
                self.assert_holds(leaves, [leaf(*one) for one in leaves] + [call], place)

    def test_at_the_edges(self):
        corners = [(s, t, late) for s in (-100000, 100000) for t in (-100000, 100000) for late in (0, 100000)]
        calls = [leaf(*one) for one in corners] + [shape(*chain(8))]
        for place in ((0, 0), (100000, 100000), (-100000, 100000), (100000, -99999)):
            with self.subTest(place=place):
                self.assert_holds(corners, calls, place)

    def test_a_part_of_half_a_unit_at_each_joint(self):
        leaves = [(0, 0, 0), (1, 0, 0), (3, 0, 0), (5, 0, 0), (9, 0, 0), (17, 0, 0), (33, 0, 0), (65, 0, 0)]
        self.assert_holds(leaves, [leaf(*one) for one in leaves] + [shape(*chain(8))], (7, 7))


def cheapest_tree(leaves, step, low, high):
    """The least wire of any tree over three leaves with its two joints on a lattice, by a search of all of them."""
    lattice = [(Fraction(x, step), Fraction(y, step))
               for x in range(low * step, high * step + 1) for y in range(low * step, high * step + 1)]
    wires = []
    for alone in range(3):
        one, other = [leaves[k] for k in range(3) if k != alone]
        last = leaves[alone]
        for p in lattice:
            t = max(one[2] + apart(p, one), other[2] + apart(p, other))
            for r in lattice:
                time = max(t + apart(r, p), last[2] + apart(r, last))
                wires.append(2 * t - one[2] - other[2] + 2 * time - t - last[2])
    return min(wires)


class NoTreeAtAllHasLess(unittest.TestCase):
    def test_whatever_its_shape_and_wherever_its_joints_are(self):
        for leaves in (
            [(0, 0, 0), (2, 1, 0), (1, 2, 0)],
            [(0, 0, 0), (2, 2, 0), (0, 1, 3)],
            [(0, 2, 0), (2, 0, 1), (0, 1, 0)],
        ):
            with self.subTest(leaves=leaves):
                found = ask_last(*[leaf(*one) for one in leaves], LEAST)
                self.assertEqual(found[0], in_parts(cheapest_tree(leaves, 4, 0, 2)))


if __name__ == "__main__":
    unittest.main()
