"""Shapes of trees. A shape is a leaf's number, or (first side, second side), each of them a shape."""


def is_shape(n, numbers):
    """Whether the numbers are the pairs of a shape over n leaves (n is at least 1)."""
    if len(numbers) != 2 * n - 2:
        return False
    # With this count, and each number used once and only when made, none can be left out.
    for place, number in enumerate(numbers):
        made = n + place // 2
        if number >= made or number in numbers[:place]:
            return False
    return True


def shape_of_pairs(n, numbers):
    made = list(range(n))
    for place in range(0, len(numbers), 2):
        made.append((made[numbers[place]], made[numbers[place + 1]]))
    return made[-1]


def gather(n, shape, pairs):
    """Put the pairs of the shape behind those that are there; answer the number of its top."""
    if isinstance(shape, int):
        return shape
    first = gather(n, shape[0], pairs)
    second = gather(n, shape[1], pairs)
    pairs.append((first, second))
    return n + len(pairs) - 1


def ordered_pairs(n, shape):
    """The pairs of a shape in the order of its joints: the first side's, the second side's, the root's."""
    pairs = []
    gather(n, shape, pairs)
    return pairs


def splits(members):
    """The ways to part the leaves of a tuple into (first side, second side), in order."""
    ways = [(members[:1], ())]
    # The last one's side orders the ways ahead of all others', so each one doubles the ways that were there.
    for member in members[1:]:
        to_first = [(first + (member,), second) for first, second in ways]
        to_second = [(first, second + (member,)) for first, second in ways]
        ways = to_first + to_second
    # The very first way has all of them on the first side.
    return ways[1:]


def shapes_over(members, known):
    """All shapes over the leaves of a tuple, in order; known keeps what is found, by the tuple."""
    if len(members) == 1:
        return [members[0]]
    if members not in known:
        found = []
        for first_members, second_members in splits(members):
            seconds = shapes_over(second_members, known)
            for first in shapes_over(first_members, known):
                found.extend([(first, second) for second in seconds])
        known[members] = found
    return known[members]


def all_shapes(n):
    """All shapes over n leaves (n is at least 1), in order."""
    return shapes_over(tuple(range(n)), {})


def shape_count(n):
    """How many shapes there are over n leaves."""
    if n == 0:
        return 0
    count = 1
    # A further leaf can be joined to each leaf and each joint of a smaller shape.
    for smaller in range(1, n):
        count = count * (2 * smaller - 1)
    return count
