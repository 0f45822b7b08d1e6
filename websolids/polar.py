"""Polar solids: a corner for each face, and a face for each corner."""

from websolids.errors import NotInside
from websolids.maps import places_of_steps
from websolids.ratios import ratio_contrary, ratio_inverse
from websolids.solids import check_corner_of, check_solid, face_planes, solid_map
from websolids.space import check_point, outward_row, rise, row_times
from websolids.ways import from_least
from websolids.webs import check_many


def faces_round(solid, corner):
    """The tuple of the positions of the faces round a corner."""
    check_solid(solid)
    check_corner_of(solid, corner)
    return all_faces_round(solid)[corner]


def polar_names(solid):
    """The list of the corners to which the faces of the polar solid belong, in their sequence."""
    check_solid(solid)
    rows = all_faces_round(solid)
    return [corner for _, corner in sorted([(row, corner) for corner, row in enumerate(rows)])]


def polar(solid, point):
    """The polar solid about a point."""
    check_solid(solid)
    check_point(point)
    if not all(rise(plane, point)[0] < 0 for plane in face_planes(solid)):
        raise NotInside()
    check_many(len(solid[2]))
    return polar_about(solid, point)


def all_faces_round(solid):
    """For each corner of what is known to be a solid the positions of the faces round it."""
    places = places_of_steps(solid[2])
    # Between two neighbours in the round of a corner lies the face that steps from the corner to the first of them.
    rounds = solid_map(solid)[2]
    return [from_least([places[(corner, other)] for other in row]) for corner, row in enumerate(rounds)]


def polar_about(solid, point):
    """The polar solid of what is known to be a solid with few faces, about a point within it."""
    corners = [polar_corner(plane, point) for plane in face_planes(solid)]
    return ("solid", tuple(corners), tuple(sorted(all_faces_round(solid))))


def polar_corner(plane, point):
    """The corner of a polar solid about a point that belongs to a face with this plane."""
    return row_times(outward_row(plane), ratio_inverse(ratio_contrary(rise(plane, point))))
