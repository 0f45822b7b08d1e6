"""Rolling: on which faces a solid rests, and whereto it rolls from the others."""

from websolids.maps import places_of_steps
from websolids.ratios import ratio_sign
from websolids.solids import check_position, check_solid
from websolids.space import cross_row, length_product, row_less
from websolids.ways import ring_steps
from websolids.weights import face_outward, middle_foot

EDGE = "edge"
REST = "rest"


def rests_on(solid, position):
    """Whether a solid rests on a face."""
    check_solid(solid)
    check_position(solid, position)
    return next_stand(solid, position) is None


def rest_faces(solid):
    """The rising list of the positions of the faces on which a solid rests."""
    check_solid(solid)
    return [position for position in range(len(solid[2])) if next_stand(solid, position) is None]


def rolls_to(solid, position):
    """The position of the face to which a solid rolls from a face, "edge" on an edge, None if it rests."""
    check_solid(solid)
    check_position(solid, position)
    return next_stand(solid, position)


def course(solid, position):
    """The list of the positions of the faces on which a solid stands from a face on, and how it ends."""
    check_solid(solid)
    check_position(solid, position)
    stands, further = [position], next_stand(solid, position)
    while further is not None and further != EDGE:
        stands.append(further)
        further = next_stand(solid, further)
    return (stands, REST if further is None else EDGE)


def next_stand(solid, position):
    """Whereto what is known to be a solid rolls from a face: a position, "edge", or None if it rests."""
    steps = ring_steps(solid[2][position])
    turns = foot_turns(solid, position)
    for (corner, behind), turned_to in zip(steps, turns):
        if turned_to < 0:
            return places_of_steps(solid[2])[(behind, corner)]
    return EDGE if 0 in turns else None


def foot_turns(solid, position):
    """For each tie of a face, in sequence, -1 if the foot of the middle lies beyond it, 0 if on it, else 1."""
    foot, upright = middle_foot(solid, position), face_outward(solid, position)
    found = []
    for corner, behind in ring_steps(solid[2][position]):
        start, end = solid[1][corner], solid[1][behind]
        found.append(ratio_sign(length_product(upright, cross_row(row_less(end, start), row_less(foot, end)))))
    return found
