"""What the tests share: how calls are written and answers read, by the program's interface alone; and what the
document's words come to, in exact fractions of the units that leaves are told in."""

import itertools
from fractions import Fraction

from samemomentdesk.wires import answers

NEW = [0]
TOLD = [4]
WIRE = [5]
LEAST = [10]
MANY = [12]


def leaf(s, t, late=0):
    return [1, s, t, late]


def move(k, s, t, late=0):
    return [2, k, s, t, late]


def shape(*pairs):
    return [3, len(pairs), *pairs]


def joint(k):
    return [6, k]


def lay(s, t):
    return [7, s, t]


def laid(s, t, k):
    return [8, s, t, k]


def judge(*joints):
    return [9, len(joints), *joints]


def rank(k):
    return [11, k]


def some_leaves(n):
    return [leaf(3 * k * k, 7 * k - 11, k % 3) for k in range(n)]


def chain(n):
    """The pairs of the shape that has each leaf, in order, joined to all those ahead of it."""
    return [number for k in range(1, n) for number in (n + k - 2 if k > 1 else 0, k)]


def ask(*calls):
    """One list of answers, one for each call of a single line."""
    given = [number for call in calls for number in call]
    kept = list(given)
    told = answers(given)
    if given != kept:
        raise AssertionError("the list handed in was changed")
    if type(told) is not list or any(type(number) is not int for number in told):
        raise AssertionError(f"not a list of whole numbers: {told!r}")
    found = []
    at = 0
    while at < len(told):
        found.append(told[at + 1:at + 1 + told[at]])
        at += 1 + told[at]
    if at != len(told) or len(found) != len(calls):
        raise AssertionError(f"not one answer for each of {len(calls)} calls: {told!r}")
    return found


def ask_last(*calls):
    """The answer to the last of the calls."""
    return ask(*calls)[-1]


def random_pairs(chance, n):
    """The pairs of some shape over n leaves, in whatever order they may be told."""
    loose = list(range(n))
    numbers = []
    for k in range(n - 1):
        for side in range(2):
            numbers.append(loose.pop(chance.randrange(len(loose))))
        loose.append(n + k)
    return numbers


def is_told_so(n, numbers):
    """By the words: n - 1 pairs, each number made ahead of its use, each but the last one used just once."""
    if len(numbers) != 2 * (n - 1):
        return False
    loose = list(range(n))
    for k in range(n - 1):
        first, second = numbers[2 * k], numbers[2 * k + 1]
        if first not in loose or second not in loose or first == second:
            return False
        loose.remove(first)
        loose.remove(second)
        loose.append(n + k)
    return loose == [2 * n - 2]


def nested(n, numbers):
    """The tree that the pairs tell: a leaf's number, or its two sides."""
    made = list(range(n))
    for k in range(n - 1):
        made.append((made[numbers[2 * k]], made[numbers[2 * k + 1]]))
    return made[-1]


def told_of(n, tree):
    """The pairs of a tree, by the words of told."""
    if isinstance(tree, int):
        return []
    first = told_of(n, tree[0])
    second = told_of(n, tree[1])
    behind_first = n + len(first) // 2
    shifted = [x if x < n else x + behind_first - n for x in second]
    behind_second = behind_first + len(second) // 2
    own_first = tree[0] if isinstance(tree[0], int) else behind_first - 1
    own_second = tree[1] if isinstance(tree[1], int) else behind_second - 1
    return first + shifted + [own_first, own_second]


def apart(one, other):
    """The greater of what sums and differences differ by, between two places."""
    return max(abs(one[0] - other[0]), abs(one[1] - other[1]))


def nearest(area, place):
    """The place of an area that is nearest to this one."""
    return (min(max(place[0], area[0]), area[1]), min(max(place[1], area[2]), area[3]))


def area_distance(one, other):
    """Between two nearest places: from any place to the one area, from there to the other, and back."""
    there = nearest(other, nearest(one, (other[0], other[2])))
    return apart(there, nearest(one, there))


def within(area, r, other, q):
    """All places r from the one area or nearer, and q from the other."""
    return (max(area[0] - r, other[0] - q), min(area[1] + r, other[1] + q),
            max(area[2] - r, other[2] - q), min(area[3] + r, other[3] + q))


def comes_to(leaves, pairs):
    """By the words, in exact fractions of the units that leaves are told in: (time, wire, area) by number."""
    found = [(Fraction(late), Fraction(0), (Fraction(s), Fraction(s), Fraction(t), Fraction(t)))
             for s, t, late in leaves]
    for k in range(0, len(pairs), 2):
        t1, wire1, area1 = found[pairs[k]]
        t2, wire2, area2 = found[pairs[k + 1]]
        time = max(t1, t2, (t1 + t2 + area_distance(area1, area2)) / 2)
        found.append((time, wire1 + wire2 + time - t1 + time - t2, within(area1, time - t1, area2, time - t2)))
    return found


def in_parts(number):
    parts = number * 256
    if parts.denominator != 1:
        raise AssertionError(f"{number} is not whole in parts")
    return int(parts)


def random_case(chance, n, reach, latest):
    leaves = [(chance.randint(-reach, reach), chance.randint(-reach, reach), chance.randint(0, latest))
              for k in range(n)]
    return leaves, random_pairs(chance, n)


def laid_by_words(leaves, pairs, place):
    """Of a tree that is laid out from a place, by joint: where it is, and its two wires. Pairs as told tells them."""
    n = len(leaves)
    found = comes_to(leaves, pairs)
    rows = [None] * (n - 1)

    def put(number, near):
        if number < n:
            return
        time, wire, area = found[number]
        here = nearest(area, near)
        sides = pairs[2 * (number - n):2 * (number - n) + 2]
        rows[number - n] = (*here, *[time - found[side][0] for side in sides])
        for side in sides:
            put(side, here)

    put(2 * n - 2, place)
    return rows


def lay_by_words(leaves, pairs, place):
    """All wire, the trunk too, and when it is everywhere."""
    time, wire, area = comes_to(leaves, pairs)[-1]
    trunk = apart(place, nearest(area, place))
    return wire + trunk, time + trunk


def judge_by_words(leaves, pairs, numbers):
    """What judge answers, in parts; pairs as told tells them."""
    n = len(leaves)
    if len(numbers) != 4 * (n - 1):
        return [-22]
    wires = []
    moments = []
    spare = []

    def place(number):
        if number < n:
            return (256 * leaves[number][0], 256 * leaves[number][1])
        return numbers[4 * (number - n):4 * (number - n) + 2]

    def walk(number, moment):
        if number < n:
            moments.append(moment + 256 * leaves[number][2])
            return
        for side in range(2):
            below = pairs[2 * (number - n) + side]
            length = numbers[4 * (number - n) + 2 + side]
            wires.append(length)
            spare.append(length - apart(place(number), place(below)))
            walk(below, moment + length)

    walk(2 * n - 2, 0)
    if any(left < 0 for left in spare):
        return [-33]
    return [sum(wires), min(moments), max(moments)]


def all_trees(members):
    """All shapes over a list of leaves, in order: each a leaf's number, or its two sides."""
    if len(members) == 1:
        return [members[0]]
    found = []
    # A way tells of each of the others, in order, whether it is on side 1 or 2.
    ways = sorted(itertools.product((1, 2), repeat=len(members) - 1), key=lambda way: way[::-1])
    for way in ways:
        if 2 in way:
            firsts = [members[0]] + [one for one, side in zip(members[1:], way) if side == 1]
            seconds = [one for one, side in zip(members[1:], way) if side == 2]
            found += itertools.product(all_trees(firsts), all_trees(seconds))
    return found


def leaves_of(tree):
    return [tree] if isinstance(tree, int) else leaves_of(tree[0]) + leaves_of(tree[1])


def joint_leaves(tree):
    """Of each joint the leaves below it, the root's last."""
    if isinstance(tree, int):
        return []
    return joint_leaves(tree[0]) + joint_leaves(tree[1]) + [leaves_of(tree)]


def soonest(leaves, members):
    """No joint above these leaves can come to less: a signal that is at two of them at the same moment has come along
    wires that reach from the one to the other."""
    return max(Fraction(leaves[one][2] + leaves[other][2] + apart(leaves[one], leaves[other]), 2)
               for one in members for other in members)


def least_by_words(leaves):
    """The first of the trees with the least wire, its wire and its time. What a tree comes to is found another way than
    by areas: each joint's time is the soonest there is, and all wire is the joints' times, the root's once more, less
    how late the leaves are."""
    known = {}

    def time(members):
        key = tuple(sorted(members))
        if key not in known:
            known[key] = soonest(leaves, key)
        return known[key]

    everyone = range(len(leaves))
    late = sum(one[2] for one in leaves)
    best = None
    for tree in all_trees(list(everyone)):
        wire = sum(time(members) for members in joint_leaves(tree)) + time(everyone) - late
        if best is None or wire < best[1]:
            best = (tree, wire, time(everyone))
    return best
