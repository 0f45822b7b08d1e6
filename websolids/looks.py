"""Looks at solids: what an eye sees of them, and what they block."""

from websolids.errors import InvalidPoint, NotClear, NotOutside
from websolids.ratios import ratio_greatest, ratio_inverse, ratio_less, ratio_plus, ratio_times
from websolids.solids import check_solid, checked_rises, face_planes
from websolids.space import check_point, rise
from websolids.ways import ring_steps

NOTHING = (0, 1)
WHOLE = (1, 1)


def seen(solid, point):
    """The sorted list of the positions of the faces that an eye sees."""
    rises = checked_rises(solid, point)
    if max(rises) <= 0:
        raise NotOutside()
    if 0 in rises:
        raise NotClear()
    return [position for position, height in enumerate(rises) if height > 0]


def rim(solid, point):
    """The ring of the ties between seen faces and others, as the seen faces step."""
    steps = {step: True for position in seen(solid, point) for step in ring_steps(solid[2][position])}
    behind = {corner: other for corner, other in steps if (other, corner) not in steps}
    ring = [min(behind)]
    while behind[ring[-1]] != ring[0]:
        ring.append(behind[ring[-1]])
    return tuple(ring)


def corners_seen(solid, point):
    """The sorted list of the corners that an eye sees."""
    return sorted(set([corner for position in seen(solid, point) for corner in solid[2][position]]))


def is_blocked(solid, one, other):
    """Whether the straight way between two points is blocked by the solid."""
    check_solid(solid)
    check_point(one)
    check_point(other)
    if one == other:
        raise InvalidPoint(other)
    pairs = [(rise(plane, one), rise(plane, other)) for plane in face_planes(solid)]
    # Inside is what lies below all planes: what is left when each has taken its part from either end of the way.
    start = ratio_greatest([part_above(first, last) for first, last in pairs])
    end = ratio_greatest([part_above(last, first) for first, last in pairs])
    return ratio_less(ratio_plus(start, end), WHOLE)[0] < 0


def part_above(near, far):
    """How much of a way does not lie below a plane, from one end on, the rises at this end and at the other told."""
    if near[0] < 0:
        return NOTHING
    if far[0] >= 0:
        return WHOLE
    return ratio_times(near, ratio_inverse(ratio_less(near, far)))
