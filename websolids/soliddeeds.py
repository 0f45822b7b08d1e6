"""Deeds on solids: corners cut off, faces raised, solids mirrored and moved."""

from websolids.errors import InvalidMatrix, Singular
from websolids.kinds import is_tuple_of
from websolids.ratios import ratio_contrary, ratio_greatest, ratio_inverse, ratio_least, ratio_less, ratio_plus
from websolids.ratios import ratio_sign, ratio_times
from websolids.solids import check_corner_of, check_position, check_solid, face_planes, solid_map
from websolids.space import check_point, cross_row, crossing, is_point, length_product, middle_of_rows, outward_row
from websolids.space import rise, row_plus, row_times
from websolids.ways import backwards, from_least, ring_steps
from websolids.webdeeds import names_of_cut
from websolids.webs import check_many

HALF = (1, 2)
ONE = (1, 1)


def cut_off(solid, corner):
    """The solid with a corner cut off."""
    check_solid(solid)
    check_corner_of(solid, corner)
    around = solid_map(solid)[2][corner]
    many = len(solid[1]) + len(around) - 1
    check_many(many)
    names = names_of_cut(corner, sorted(around), len(solid[1]))
    corners = list(solid[1]) + [None] * (many - len(solid[1]))
    for other, point in zip(around, cuts_round(solid, corner, around)):
        corners[names[other]] = point
    rings = [with_cut(ring, corner, names) for ring in solid[2]]
    rings.append(from_least([names[other] for other in around]))
    return ("solid", tuple(corners), tuple(sorted(rings)))


def raised(solid, position):
    """The solid with a face raised."""
    check_solid(solid)
    check_position(solid, position)
    many = len(solid[1])
    check_many(many + 1)
    face = solid[2][position]
    rest = [ring for ring in solid[2] if ring != face]
    sides = [from_least((corner, behind, many)) for corner, behind in ring_steps(face)]
    return ("solid", solid[1] + (top_over(solid, position),), tuple(sorted(rest + sides)))


def mirrored(solid):
    """The solid mirrored."""
    check_solid(solid)
    corners = [(ratio_contrary(x), y, z) for x, y, z in solid[1]]
    return ("solid", tuple(corners), turned_faces(solid))


def moved(solid, matrix, point):
    """The solid moved by a matrix and a point."""
    check_solid(solid)
    if not is_matrix(matrix):
        raise InvalidMatrix(matrix)
    check_point(point)
    sign = ratio_sign(length_product(matrix[0], cross_row(matrix[1], matrix[2])))
    if sign == 0:
        raise Singular()
    corners = [row_plus([length_product(row, corner) for row in matrix], point) for corner in solid[1]]
    return ("solid", tuple(corners), solid[2] if sign > 0 else turned_faces(solid))


def is_matrix(value):
    """Whether any value is a MATRIX."""
    return is_tuple_of(value, 3) and all(is_point(row) for row in value)


def turned_faces(solid):
    """The faces of a solid, each gone round the other way."""
    return tuple(sorted([backwards(ring) for ring in solid[2]]))


def cuts_round(solid, corner, around):
    """The list of the points at which the ties from a corner to its neighbours are cut."""
    outward = ((0, 1), (0, 1), (0, 1))
    for ring, plane in zip(solid[2], face_planes(solid)):
        if corner in ring:
            outward = row_plus(outward, outward_row(plane))
    heights = [length_product(outward, point) for point in solid[1]]
    next_one = ratio_greatest([height for at, height in enumerate(heights) if at != corner])
    level = ratio_times(ratio_plus(heights[corner], next_one), HALF)
    rises = [ratio_less(height, level) for height in heights]
    return [crossing(solid[1][corner], solid[1][other], rises[corner], rises[other]) for other in around]


def with_cut(ring, corner, names):
    """A face of a solid whose corner is cut off: two new corners in the place of this one."""
    if corner not in ring:
        return ring
    at = ring.index(corner)
    before, behind = ring[at - 1], ring[(at + 1) % len(ring)]
    return from_least(ring[:at] + (names[before], names[behind]) + ring[at + 1:])


def top_over(solid, position):
    """The point over a face that is raised."""
    planes = face_planes(solid)
    outward = outward_row(planes[position])
    middle = middle_of_rows([solid[1][corner] for corner in solid[2][position]])
    parts = []
    for plane in planes:
        slope = length_product(outward, outward_row(plane))
        if plane != planes[position] and slope[0] > 0:
            # The middle of the face lies below the plane of each other one.
            parts.append(ratio_times(ratio_contrary(rise(plane, middle)), ratio_inverse(slope)))
    part = ratio_times(ratio_least(parts), HALF) if parts else ONE
    return row_plus(middle, row_times(outward, part))
