"""The best of all shapes."""

from samemomentdesk.shapes import all_shapes
from samemomentdesk.trees import joint_outcome, leaf_outcome


def shape_outcome(shape, known):
    """What a shape comes to; known holds what its leaves come to, and keeps what is found."""
    if shape not in known:
        known[shape] = joint_outcome(shape_outcome(shape[0], known), shape_outcome(shape[1], known))
    return known[shape]


def cost(shape, known):
    """Less wire goes ahead of less time."""
    outcome = shape_outcome(shape, known)
    return (outcome.wire, outcome.time)


def least_shape(leaves):
    known = {}
    for number, leaf in enumerate(leaves):
        known[number] = leaf_outcome(leaf)
    # What looks best for a few leaves may be worse for all, so each shape is tried; of like ones min takes the first.
    return min(all_shapes(len(leaves)), key=lambda shape: cost(shape, known))
