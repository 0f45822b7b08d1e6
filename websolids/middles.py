"""Middles: the corners of a map put in the plane, and the rings between them."""

from websolids.equations import solved_table
from websolids.errors import InvalidFace, InvalidPlaces, InvalidPoint, InvalidRing
from websolids.kinds import is_integer, is_tuple_of, threes_of
from websolids.maps import check_map, rings_in
from websolids.ratios import ratio_less, ratio_sum, ratio_times
from websolids.space import is_flat_point, middle_of_rows, turn
from websolids.ways import ring_steps

OUTER_PLACES = (((0, 1), (0, 1)), ((0, 1), (1, 1)), ((1, 1), (0, 1)))
HALF = (1, 2)


def placed(chart, ring):
    """The places at the middles of a map for an outer ring."""
    check_outer(chart, ring)
    return middle_places(chart, ring)


def is_at_middles(chart, ring, value):
    """Whether any value is places at the middles for an outer ring."""
    check_outer(chart, ring)
    if not are_places(chart, ring, value):
        return False
    inner = [corner for corner in range(len(value)) if corner not in ring]
    return all(value[corner] == middle_of_rows([value[other] for other in chart[2][corner]]) for corner in inner)


def is_placed(chart, ring, value):
    """Whether any value is convex places for an outer ring."""
    check_outer(chart, ring)
    return are_convex(chart, ring, value)


def ring_area(chart, ring, places, face):
    """The area of an inner ring by convex places."""
    check_places(chart, ring, places)
    if not is_row_of(face, inner_rings(chart, ring)):
        raise InvalidFace(face)
    parts = [area_part(places[corner], places[behind]) for corner, behind in ring_steps(face)]
    return ratio_times(ratio_sum(parts), HALF)


def rings_around(chart, ring, places, point):
    """The sorted list of the inner rings in which, on whose ties or at whose corners a flat point lies."""
    check_places(chart, ring, places)
    if not is_flat_point(point):
        raise InvalidPoint(point)
    found = []
    for face in inner_rings(chart, ring):
        turns = [turn(places[corner], places[behind], point) for corner, behind in ring_steps(face)]
        # A convex ring has all on its left that lies in it.
        if min(turns) >= 0:
            found.append(face)
    return found


def check_outer(chart, ring):
    """Raises what is told for a map and the ring of three corners that is to be the outer one."""
    check_map(chart)
    if not is_tuple_of(ring, 3) or not is_row_of(ring, rings_in(chart[2])):
        raise InvalidRing(ring)


def check_places(chart, ring, value):
    """Raises what is told for a map, its outer ring, and convex places."""
    check_outer(chart, ring)
    if not are_convex(chart, ring, value):
        raise InvalidPlaces(value)


def is_row_of(value, rings):
    """Whether any value is one of these rings."""
    return isinstance(value, tuple) and all(is_integer(corner) for corner in value) and value in rings


def inner_rings(chart, ring):
    """The sorted list of all rings of a map but the outer one."""
    return [face for face in rings_in(chart[2]) if face != ring]


def are_places(chart, ring, value):
    """Whether any value is places of a map, those of the outer ring's corners as they have to be."""
    if not is_tuple_of(value, chart[1][1]) or not all(is_flat_point(point) for point in value):
        return False
    return all(value[corner] == point for corner, point in zip(ring, OUTER_PLACES))


def are_convex(chart, ring, value):
    """Whether any value is convex places of a map for an outer ring."""
    if not are_places(chart, ring, value):
        return False
    for face in inner_rings(chart, ring):
        points = [value[corner] for corner in face]
        if not all(turn(one, other, third) == 1 for one, other, third in threes_of(points)):
            return False
    return True


def middle_places(chart, ring):
    """The places at the middles of what is known to be a map with this outer ring."""
    places = {corner: point for corner, point in zip(ring, OUTER_PLACES)}
    inner = [corner for corner in range(chart[1][1]) if corner not in places]
    if inner:
        firsts, seconds = solved_table([middle_row(chart[2][corner], corner, inner, places) for corner in inner])
        for corner, first, second in zip(inner, firsts, seconds):
            places[corner] = (first, second)
    return tuple([places[corner] for corner in range(chart[1][1])])


def middle_row(neighbours, corner, inner, outer):
    """What tells that an inner corner is at the middle of its neighbours: a row of INTEGERS, two right sides behind."""
    row = [len(neighbours) if other == corner else -neighbours.count(other) for other in inner]
    points = [outer[other] for other in neighbours if other in outer]
    # The outer corners stand at whole numbers.
    return row + [sum([point[0][0] for point in points]), sum([point[1][0] for point in points])]


def area_part(point, further):
    """What the step from one flat point to a further one tells of twice the area on its left."""
    return ratio_less(ratio_times(point[0], further[1]), ratio_times(further[0], point[1]))
