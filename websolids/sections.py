"""Sections of solids by planes, and the halves on either side."""

from websolids.hulls import hull_of_corners, ring_on
from websolids.ratios import ratio_sign, shared_under, wholes_of
from websolids.solids import check_solid, solid_web
from websolids.space import check_plane, crossing, rise
from websolids.webs import check_many
from websolids.wholerows import whole_point

ABOVE = 1
BELOW = -1


def section(solid, plane):
    """The list of the points of the section by a plane, in sequence."""
    rises = checked_heights(solid, plane)
    on_plane = [corner for corner, height in zip(solid[1], rises) if height[0] == 0]
    points = lesser_first(on_plane + cuts_of(solid, rises))
    if len(points) < 3:
        return points
    ring = ring_on([whole_point(point) for point in points], plane, list(range(len(points))))
    return [points[at] for at in ring]


def halves(solid, plane):
    """The tuple of the half below a plane and the half above, None for one that isn't there."""
    rises = checked_heights(solid, plane)
    sides = [ratio_sign(height) for height in rises]
    cuts = cuts_of(solid, rises)
    return (half_on(solid, sides, cuts, BELOW), half_on(solid, sides, cuts, ABOVE))


def checked_heights(solid, plane):
    """For each corner of a solid how much it rises above a plane."""
    check_solid(solid)
    check_plane(plane)
    return [rise(plane, corner) for corner in solid[1]]


def cuts_of(solid, rises):
    """The list of the points at which ties are cut, each corner's rise above the plane being told."""
    cuts = []
    for one, other in solid_web(solid)[2]:
        if ratio_sign(rises[one]) * ratio_sign(rises[other]) < 0:
            cuts.append(crossing(solid[1][one], solid[1][other], rises[one], rises[other]))
    return cuts


def lesser_first(points):
    """Unlike points as a list, a lesser one ahead of a greater one, as numbers."""
    under = shared_under([number for point in points for number in point])
    return [point for _, point in sorted([(wholes_of(point, under), point) for point in points])]


def half_on(solid, sides, cuts, own):
    """The half on one side of a plane, each corner's side being told; None if no corner lies strictly there."""
    if own not in sides:
        return None
    points = sorted([corner for corner, told in zip(solid[1], sides) if told != -own] + cuts)
    check_many(len(points))
    return hull_of_corners(points)
