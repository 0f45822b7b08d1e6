"""Hulls of points: the needed points and the faces, found by trying all threes."""

from websolids.errors import Flat, InvalidPoints
from websolids.kinds import is_listed
from websolids.solids import is_solid
from websolids.space import is_point
from websolids.ways import from_least
from websolids.webs import check_many
from websolids.wholerows import is_no_plane, spanned, whole_point, whole_product, whole_rise

FEWEST_POINTS = 4
MOST_POINTS = 40


def hull(points):
    """The solid that is the hull of points, its corners sorted."""
    check_points(points)
    corners = needed_ones(points)
    check_many(len(corners))
    return hull_of_corners(corners)


def needed(points):
    """The sorted list of the needed points, each once."""
    check_points(points)
    return needed_ones(points)


def is_hull(points, value):
    """Whether any value is the hull of points, its corners in whatever sequence."""
    check_points(points)
    corners = needed_ones(points)
    return is_solid(value) and sorted(value[1]) == corners


def check_points(value):
    """Raises what is told for a parameter that must be a list of points of a hull."""
    if not is_listed(value) or not FEWEST_POINTS <= len(value) <= MOST_POINTS:
        raise InvalidPoints(value)
    if not all(is_point(point) for point in value):
        raise InvalidPoints(value)


def needed_ones(points):
    """The sorted list of the needed ones of some points, each once."""
    told = sorted(set(points))
    lots = [lot for _, lot in face_lots([whole_point(point) for point in told])]
    # On all planes of a needed point lies no other one; of a point within, which is on none, each other one does.
    return [point for at, point in enumerate(told) if shared_by([lot for lot in lots if at in lot], told) == [at]]


def shared_by(lots, told):
    """The list of the places of points that are in all of some lots of places."""
    return [at for at in range(len(told)) if all(at in lot for lot in lots)]


def face_lots(points):
    """The planes of the hull of unlike whole points, each with the rising list of the places of the points on it."""
    found, many = [], len(points)
    for one in range(many):
        for other in range(one + 1, many):
            for third in range(other + 1, many):
                if any(one in lot and other in lot and third in lot for _, lot in found):
                    continue
                plane = face_plane(points, spanned(points[one], points[other], points[third]))
                if plane is not None:
                    on_plane = [at for at in range(many) if whole_rise(plane, points[at]) == 0]
                    found.append((plane, on_plane))
    if not found or len(found[0][1]) == many:
        raise Flat()
    return found


def face_plane(points, plane):
    """A plane, turned if need be, so that no point lies above it; None if points lie on both sides, or it is none."""
    if is_no_plane(plane):
        return None
    above = below = False
    for point in points:
        rise = whole_rise(plane, point)
        above, below = above or rise > 0, below or rise < 0
        if above and below:
            return None
    return tuple([-part for part in plane]) if above else plane


def hull_of_corners(corners):
    """The hull of points all of which are needed."""
    points = [whole_point(corner) for corner in corners]
    rings = [ring_on(points, plane, lot) for plane, lot in face_lots(points)]
    return ("solid", tuple(corners), tuple(sorted(rings)))


def ring_on(points, plane, lot):
    """The ring of the corners that lie on the plane of a face."""
    ring = lot[:1]
    while len(ring) < len(lot):
        rest = [at for at in lot if at != ring[-1]]
        ring.append([at for at in rest if leads_round(points, plane, ring[-1], at, rest)][0])
    return from_least(ring)


def leads_round(points, plane, corner, behind, rest):
    """Whether all other corners of a face lie on the left of the step from one to another."""
    others = [points[at] for at in rest if at != behind]
    return all(whole_product(plane, spanned(points[corner], points[behind], point)) > 0 for point in others)
