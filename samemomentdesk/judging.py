"""Trees judged by what is told of each joint: its place, its two wires. Lists are by number, as those of layouts."""

from samemomentdesk.places import PARTS, apart, in_parts


def told_places(leaves, numbers):
    """Where each is by judge's numbers, four for each joint."""
    places = [in_parts(leaf[0], leaf[1]) for leaf in leaves]
    for at in range(0, len(numbers), 4):
        places.append((numbers[at], numbers[at + 1]))
    return places


def told_lengths(n, pairs, numbers):
    """How long the wire above each is by judge's numbers; above the root there is none."""
    lengths = [0] * (n + len(pairs))
    for k, pair in enumerate(pairs):
        lengths[pair[0]] = numbers[4 * k + 2]
        lengths[pair[1]] = numbers[4 * k + 3]
    return lengths


def are_long_enough(places, above, lengths):
    for number in range(len(places) - 1):
        if lengths[number] < apart(places[number], places[above[number]]):
            return False
    return True


def leaf_moments(leaves, above, lengths):
    """When the signal is at each leaf's end, counted from the root."""
    moments = [0] * len(above)
    for number in range(len(above) - 2, -1, -1):
        moments[number] = moments[above[number]] + lengths[number]
    return [moments[number] + PARTS * leaf[2] for number, leaf in enumerate(leaves)]
