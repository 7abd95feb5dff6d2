"""Places: each is (sum, difference), in parts."""

PARTS = 256


def in_parts(s, t):
    """The place that is handed over in whole numbers."""
    return (PARTS * s, PARTS * t)


def apart(one, other):
    return max(abs(one[0] - other[0]), abs(one[1] - other[1]))


def nearest(area, place):
    """The place of an area (least and greatest sum, least and greatest difference) that is nearest to this one."""
    return (min(max(place[0], area[0]), area[1]), min(max(place[1], area[2]), area[3]))
