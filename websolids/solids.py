"""SOLIDS: judged by sums alone, their planes, webs and maps, and what lies in them."""

from websolids.errors import InvalidCorner, InvalidPosition, InvalidSolid
from websolids.kinds import has_unlike_counts, is_count_below, is_tuple_of, is_word, threes_of
from websolids.maps import followers, round_of
from websolids.space import check_point, is_point, middle_of_rows
from websolids.ways import ring_steps
from websolids.webs import MOST_CORNERS, web_of_pairs
from websolids.wholerows import is_no_plane, least_plane, spanned, whole_point, whole_product, whole_rise

FEWEST_CORNERS = 4
FEWEST_FACES = 4


def is_solid(value):
    """Whether any value is a solid that is right."""
    if not is_tuple_of(value, 3) or not is_word(value[0], "solid"):
        return False
    corners, rings = value[1], value[2]
    if not isinstance(corners, tuple) or not FEWEST_CORNERS <= len(corners) <= MOST_CORNERS:
        return False
    if not all(is_point(corner) for corner in corners) or not are_face_rings(rings, len(corners)):
        return False
    points = [whole_point(corner) for corner in corners]
    return are_closed(rings, len(corners)) and all(is_face_of(points, ring) for ring in rings)


def planes(solid):
    """The list of the planes of the faces."""
    check_solid(solid)
    return face_planes(solid)


def web_of(solid):
    """The web of a solid."""
    check_solid(solid)
    return solid_web(solid)


def map_of(solid):
    """The map of a solid."""
    check_solid(solid)
    return solid_map(solid)


def inside(solid):
    """The middle of the corners."""
    check_solid(solid)
    return middle_of_rows(list(solid[1]))


def where(solid, point):
    """Whether a point is "in", "on" or "out" of a solid."""
    rises = checked_rises(solid, point)
    if max(rises) > 0:
        return "out"
    return "on" if 0 in rises else "in"


def faces_of(solid, point):
    """The rising list of the positions of the faces on whose planes a point of the solid's surface is."""
    rises = checked_rises(solid, point)
    if max(rises) > 0:
        return []
    return [position for position, rise in enumerate(rises) if rise == 0]


def check_solid(value):
    """Raises what is told for a parameter that must be a right SOLID."""
    if not is_solid(value):
        raise InvalidSolid(value)


def check_corner_of(solid, value):
    """Raises what is told for a parameter that must be a corner of what is known to be a solid."""
    if not is_count_below(value, len(solid[1])):
        raise InvalidCorner(value)


def check_position(solid, value):
    """Raises what is told for a parameter that must be the position of a face of what is known to be a solid."""
    if not is_count_below(value, len(solid[2])):
        raise InvalidPosition(value)


def are_face_rings(value, many):
    """Whether any value is a sorted tuple of at least four face rings of so many corners."""
    if not isinstance(value, tuple) or len(value) < FEWEST_FACES:
        return False
    if not all(is_face_ring(ring, many) for ring in value):
        return False
    return all(ring < further for ring, further in zip(value, value[1:]))


def is_face_ring(value, many):
    """Whether any value is a tuple of at least three unlike positions of corners, from the least on."""
    if not isinstance(value, tuple) or len(value) < 3 or not has_unlike_counts(value, many):
        return False
    return value[0] == min(value)


def are_closed(rings, many):
    """Whether each corner is in a ring, each step in one alone, and its contrary in another one."""
    steps = [step for ring in rings for step in ring_steps(ring)]
    told = {step: True for step in steps}
    if len(told) < len(steps) or len(set([corner for corner, _ in steps])) < many:
        return False
    return all((behind, corner) in told for corner, behind in steps)


def is_face_of(points, ring):
    """Whether the whole points of a ring lie on one plane and turn left there, and all others lie below it."""
    row = [points[corner] for corner in ring]
    plane = spanned(row[0], row[1], row[2])
    if is_no_plane(plane):
        return False
    for corner, point in enumerate(points):
        rise = whole_rise(plane, point)
        if rise > 0 or (rise == 0) != (corner in ring):
            return False
    return all(whole_product(plane, spanned(one, other, third)) > 0 for one, other, third in threes_of(row))


def solid_web(solid):
    """The web of what is known to be a solid."""
    return web_of_pairs(len(solid[1]), [step for ring in solid[2] for step in ring_steps(ring)])


def solid_map(solid):
    """The map of what is known to be a solid."""
    follow = followers(solid[2])
    rounds = [round_of(follow[corner]) for corner in range(len(solid[1]))]
    return ("map", solid_web(solid), tuple(rounds))


def face_planes(solid):
    """The list of the planes of the faces of what is known to be a solid."""
    points = [whole_point(corner) for corner in solid[1]]
    return [least_plane(spanned(points[ring[0]], points[ring[1]], points[ring[2]])) for ring in solid[2]]


def checked_rises(solid, point):
    """For each face of a solid whether a point lies above its plane, on it or below it: above 0, 0, below 0."""
    check_solid(solid)
    check_point(point)
    place = whole_point(point)
    return [whole_rise(plane, place) for plane in face_planes(solid)]
