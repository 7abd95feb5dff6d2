"""Trees laid out. Lists are by number: the leaves', then the joints'; the root's is the last."""

from samemomentdesk.places import nearest


def joints_above(n, pairs):
    """By number, the number of the joint above; above the root there is none."""
    above = [None] * (n + len(pairs))
    for k, pair in enumerate(pairs):
        for side in pair:
            above[side] = n + k
    return above


def laid_places(found, above, place):
    """Where each is laid out from a place; found is what each of them comes to."""
    places = [None] * len(found)
    places[-1] = nearest(found[-1].area, place)
    # The joint above has the greater number, so it has its place ahead of those below it.
    for number in range(len(found) - 2, -1, -1):
        places[number] = nearest(found[number].area, places[above[number]])
    return places
