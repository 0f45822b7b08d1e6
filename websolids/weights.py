"""Weights of solids: size, middle of weight, how great each face is and how high the middle stands over it."""

from websolids.ratios import ratio_inverse, ratio_sum, ratio_times
from websolids.solids import check_position, check_solid, face_planes
from websolids.space import cross_row, foot, length_product, middle_of_rows, outward_row, rise, row_less, row_plus
from websolids.space import row_times

NO_POINT = ((0, 1), (0, 1), (0, 1))
HALF = (1, 2)
SIXTH = (1, 6)


def size(solid):
    """The size of a solid."""
    check_solid(solid)
    return ratio_sum([part for _, part in tetrahedra(solid)])


def middle_of(solid):
    """The middle of weight of a solid."""
    check_solid(solid)
    return weight_middle(solid)


def outward(solid, position):
    """The outward of a face: at right angles to it, as long as it is great."""
    check_solid(solid)
    check_position(solid, position)
    return face_outward(solid, position)


def foot_on(solid, position):
    """The foot of the middle on the plane of a face."""
    check_solid(solid)
    check_position(solid, position)
    return middle_foot(solid, position)


def height_square(solid, position):
    """The height of the middle over a face, times itself."""
    check_solid(solid)
    check_position(solid, position)
    plane = face_planes(solid)[position]
    depth, upright = rise(plane, weight_middle(solid)), outward_row(plane)
    return ratio_times(ratio_times(depth, depth), ratio_inverse(length_product(upright, upright)))


def fan(ring):
    """The triangles into which a face falls, from its first corner."""
    return [(ring[0], ring[at], ring[at + 1]) for at in range(1, len(ring) - 1)]


def tetrahedra(solid):
    """The tetrahedra into which a solid falls, from its corner 0: of each the list of its corners, and its size."""
    found, points = [], solid[1]
    for ring in [ring for ring in solid[2] if 0 not in ring]:
        for triangle in fan(ring):
            sides = [row_less(points[corner], points[0]) for corner in triangle]
            worth = length_product(sides[0], cross_row(sides[1], sides[2]))
            corners = [points[0]] + [points[corner] for corner in triangle]
            found.append((corners, ratio_times(worth, SIXTH)))
    return found


def weight_middle(solid):
    """The middle of weight of what is known to be a solid."""
    lots = tetrahedra(solid)
    total = NO_POINT
    for corners, part in lots:
        total = row_plus(total, row_times(middle_of_rows(corners), part))
    return row_times(total, ratio_inverse(ratio_sum([part for _, part in lots])))


def face_outward(solid, position):
    """The outward of a face of what is known to be a solid."""
    total = NO_POINT
    for first, one, other in fan(solid[2][position]):
        sides = [row_less(solid[1][corner], solid[1][first]) for corner in (one, other)]
        total = row_plus(total, cross_row(sides[0], sides[1]))
    return row_times(total, HALF)


def middle_foot(solid, position):
    """The foot of the middle of what is known to be a solid on the plane of a face."""
    return foot(face_planes(solid)[position], weight_middle(solid))
