"""Maps turned about: their rings as corners."""

from websolids.errors import NotThreeJoined
from websolids.maps import check_map, places_of_steps, rings_in
from websolids.partings import has_no_parting
from websolids.ways import from_least, ring_steps
from websolids.webs import check_many, web_of_pairs


def turned(chart):
    """The map turned about."""
    return turned_about(checked_rings(chart))


def back_names(chart):
    """For each ring of the map turned about the corner around which it goes."""
    rings = checked_rings(chart)
    return tuple([shared_corner([rings[place] for place in lot]) for lot in rings_in(turned_about(rings)[2])])


def checked_rings(chart):
    """The sorted rings of a map that can be turned about."""
    check_map(chart)
    if not has_no_parting(chart[1]):
        raise NotThreeJoined()
    rings = rings_in(chart[2])
    check_many(len(rings))
    return rings


def turned_about(rings):
    """The map whose corners are these sorted rings, of a map of a three-joined web."""
    places = places_of_steps(rings)
    rows = [[places[(behind, corner)] for corner, behind in ring_steps(ring)] for ring in rings]
    pairs = [(place, other) for place, row in enumerate(rows) for other in row]
    return ("map", web_of_pairs(len(rings), pairs), tuple([from_least(row) for row in rows]))


def shared_corner(rings):
    """The one corner that all rings around it have."""
    return [corner for corner in rings[0] if all(corner in ring for ring in rings)][0]
