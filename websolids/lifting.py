"""Lifting: a map put in the plane at the middles, its rings made planes, its corners lifted into space."""

from websolids.errors import InvalidPoint, NotThreeJoined
from websolids.maps import places_of_steps, rings_in
from websolids.middles import check_outer, inner_rings, middle_places
from websolids.partings import has_no_parting
from websolids.ratios import ratio_greatest, ratio_less, ratio_plus, ratio_times
from websolids.space import is_flat_point, length_product, row_less, row_plus
from websolids.ways import backwards, ring_steps

FIRST_PLANE = ((0, 1), (0, 1), (0, 1))
NO_PULL = ((0, 1), (0, 1))
ONE = (1, 1)


def slopes(chart, ring):
    """The list of the planes of the rings, in their sorted sequence, the outer one left out."""
    check_lifted(chart, ring)
    return ring_planes(inner_rings(chart, ring), middle_places(chart, ring))


def lifted(chart, ring):
    """The list of the heights of the corners."""
    check_lifted(chart, ring)
    return [point[2] for point in lifted_points(chart, ring)]


def height_at(chart, ring, point):
    """How high the lifted surface is at a flat point."""
    check_outer(chart, ring)
    if not is_flat_point(point):
        raise InvalidPoint(point)
    check_joined(chart)
    planes = ring_planes(inner_rings(chart, ring), middle_places(chart, ring))
    return ratio_greatest([worth_at(plane, point) for plane in planes])


def pulls(chart, ring):
    """The list of the pulls at the three corners of the outer ring."""
    check_lifted(chart, ring)
    places = middle_places(chart, ring)
    told = []
    for corner in ring:
        pull = NO_PULL
        for other in chart[2][corner]:
            if other not in ring:
                pull = row_plus(pull, row_less(places[other], places[corner]))
        told.append(pull)
    return told


def lifted_solid(chart, ring):
    """The lifted solid of a map and its outer ring."""
    check_lifted(chart, ring)
    return solid_over(chart, ring)


def check_lifted(chart, ring):
    """Raises what is told for a map that is to be lifted, and its outer ring."""
    check_outer(chart, ring)
    check_joined(chart)


def check_joined(chart):
    """Raises what is told for a map whose web must be three-joined."""
    if not has_no_parting(chart[1]):
        raise NotThreeJoined()


def solid_over(chart, ring):
    """The lifted solid of what is known to be a map of a three-joined web, and its outer ring."""
    turned_round = sorted([backwards(face) for face in rings_in(chart[2])])
    return ("solid", tuple(lifted_points(chart, ring)), tuple(turned_round))


def lifted_points(chart, ring):
    """The list of the corners' points, at their places and heights."""
    faces, places = inner_rings(chart, ring), middle_places(chart, ring)
    planes = ring_planes(faces, places)
    over = {corner: plane for face, plane in zip(faces, planes) for corner in face}
    return [(place[0], place[1], worth_at(over[corner], place)) for corner, place in enumerate(places)]


def ring_planes(faces, places):
    """For each inner ring its plane, led over from ring to ring by the ties between."""
    at_left = places_of_steps(faces)
    planes, reached = {0: FIRST_PLANE}, [0]
    while len(planes) < len(faces):
        at = reached.pop()
        for corner, behind in ring_steps(faces[at]):
            beyond = at_left.get((behind, corner), at)
            if beyond not in planes:
                planes[beyond] = led_over(planes[at], places[behind], places[corner])
                reached.append(beyond)
    return [planes[at] for at in range(len(faces))]


def led_over(plane, start, end):
    """The plane of the ring on the left of a tie, from start to end, that of the ring on its right being told."""
    dx, dy = row_less(end, start)
    rise = ratio_less(ratio_times(dy, start[0]), ratio_times(dx, start[1]))
    return (ratio_less(plane[0], dy), ratio_plus(plane[1], dx), ratio_plus(plane[2], rise))


def worth_at(plane, point):
    """How high a plane of a ring is at a flat point."""
    return length_product(plane, (point[0], point[1], ONE))
