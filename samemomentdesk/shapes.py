"""Shapes of trees, told by pairs of numbers."""


def is_shape(n, numbers):
    """Whether the numbers are the pairs of a shape over n leaves (n is at least 1)."""
    if len(numbers) != 2 * n - 2:
        return False
    # With this count, and each number used once and only when made, none can be left out.
    for place, number in enumerate(numbers):
        made = n + place // 2
        if number >= made or number in numbers[:place]:
            return False
    return True


def gather(n, numbers, number, pairs):
    """Put the pairs of the tree from this number on behind those that are there; answer its new number."""
    if number < n:
        return number
    place = 2 * (number - n)
    first = gather(n, numbers, numbers[place], pairs)
    second = gather(n, numbers, numbers[place + 1], pairs)
    pairs.append((first, second))
    return n + len(pairs) - 1


def ordered_pairs(n, numbers):
    """The pairs of a shape in the order of its joints: the first side's, the second side's, the root's."""
    pairs = []
    gather(n, numbers, 2 * n - 2, pairs)
    return pairs
