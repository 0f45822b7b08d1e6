"""Faces of a web, told by the web alone, and its map."""

from websolids.drawing import drawn
from websolids.errors import NotDrawn, NotThreeJoined, NotTied, TooMany
from websolids.maps import mirrored_chart, rings_in
from websolids.partings import has_no_parting
from websolids.ways import is_plain_ring, lesser_way_round, ring_steps
from websolids.webs import are_tied, check_web, has_tie, neighbour_rows, parts_of

MOST_GONE_THROUGH = 8


def is_face(web, value):
    """Whether any value is a plain ring of the web that is a face of it."""
    if not is_plain_ring(web, value):
        return False
    across = [tie for tie in web[2] if tie[0] in value and tie[1] in value]
    return len(across) == len(value) and leaves_joined(neighbour_rows(web), value)


def faces(web):
    """The sorted list of the faces of a web."""
    check_web(web)
    return plain_rings_of(drawn_chart(web))


def faces_at(web, one, other):
    """The sorted list of the two faces that have the tie of two corners."""
    if not are_tied(web, one, other):
        raise NotTied()
    found = []
    for face in plain_rings_of(drawn_chart(web)):
        steps = ring_steps(face)
        if (one, other) in steps or (other, one) in steps:
            found.append(face)
    return found


def the_map(web):
    """That of the two maps of a web which has the lesser rounds."""
    check_web(web)
    chart = drawn_chart(web)
    return min(chart, mirrored_chart(chart))


def faces_by_rings(web):
    """The sorted list of the faces of any web with few corners, found by going through its rings."""
    check_web(web)
    if web[1] > MOST_GONE_THROUGH:
        raise TooMany("corners", MOST_GONE_THROUGH)
    rows = neighbour_rows(web)
    return sorted([ring for ring in rings_without_chords(web, rows) if leaves_joined(rows, ring)])


def drawn_chart(web):
    """A map of what is known to be a web, if it is three-joined and can be drawn."""
    if not has_no_parting(web):
        raise NotThreeJoined()
    chart = drawn(web)
    if chart is None:
        raise NotDrawn()
    return chart


def plain_rings_of(chart):
    """The sorted list of the rings of a map of a three-joined web, as plain rings."""
    return sorted([lesser_way_round(ring) for ring in rings_in(chart[2])])


def leaves_joined(rows, ring):
    """Whether the corners that are not in a ring are joined, or none."""
    return len(parts_of(rows, ring)) <= 1


def rings_without_chords(web, rows):
    """All plain rings of a web across which no tie lies."""
    rings, ways = [], [(corner,) for corner in range(web[1])]
    while ways:
        longer = []
        for way in ways:
            for corner in rows[way[-1]]:
                touched = [other for other in way[:-1] if has_tie(web, corner, other)]
                if corner > way[0] and corner not in way and touched in ([], [way[0]]):
                    longer.append(way + (corner,))
        # A way whose ends are tied makes a ring; to lead it on would make this tie a chord.
        closed = [way for way in longer if len(way) > 2 and has_tie(web, way[0], way[-1])]
        rings.extend([way for way in closed if way[1] < way[-1]])
        ways = [way for way in longer if way not in closed]
    return rings
