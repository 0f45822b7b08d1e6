"""WAYS and RINGS of a web."""

from websolids.errors import InvalidRing
from websolids.kinds import has_unlike_counts
from websolids.webs import check_corner, check_corners, check_web, has_tie, neighbour_rows


def is_way(web, value):
    """Whether any value is a WAY of the web."""
    check_web(web)
    return is_way_in(web, value)


def is_ring(web, value):
    """Whether any value is a RING of the web."""
    check_web(web)
    return is_round_in(web, value) and value[0] == min(value)


def is_plain_ring(web, value):
    """Whether any value is a PLAIN RING of the web."""
    return is_ring(web, value) and value[1] < value[-1]


def shortest_way(web, one, other, barred):
    """The least of the ways with the fewest corners that have no barred one, None if there is none."""
    check_web(web)
    check_corner(web, one)
    check_corner(web, other)
    check_corners(web, barred)
    if one in barred or other in barred:
        return None
    return least_way(neighbour_rows(web), one, other, barred)


def plain_ring(web, ring):
    """The PLAIN RING of a ring that is told from any of its corners on."""
    check_web(web)
    check_round(web, ring)
    return lesser_way_round(from_least(ring))


def has_chord(web, ring):
    """Whether a tie joins two corners of a ring that are no neighbours in it."""
    check_web(web)
    check_round(web, ring)
    # The ring's own ties are as many as its corners: each further tie of its corners is a chord.
    own = [tie for tie in web[2] if tie[0] in ring and tie[1] in ring]
    return len(own) > len(ring)


def is_way_in(web, value):
    """Whether any value is a WAY of what is known to be a web."""
    if not isinstance(value, tuple) or not value or not has_unlike_counts(value, web[1]):
        return False
    return all(has_tie(web, one, other) for one, other in zip(value, value[1:]))


def is_round_in(web, value):
    """Whether any value is a ring of what is known to be a web, written from any of its corners on."""
    return is_way_in(web, value) and len(value) > 2 and has_tie(web, value[-1], value[0])


def check_round(web, value):
    """Raises what is told for a parameter that must be a ring, written from any of its corners on."""
    if not is_round_in(web, value):
        raise InvalidRing(value)


def from_least(row):
    """A row of unlike corners, written from any of them on, as a tuple from the least one on."""
    start = row.index(min(row))
    return tuple(row[start:] + row[:start])


def backwards(row):
    """A ring or a round the other way about, from the same corner on."""
    return row[:1] + row[:0:-1]


def lesser_way_round(ring):
    """The PLAIN RING of a RING."""
    return min(ring, backwards(ring))


def ring_steps(ring):
    """The steps of a ring: from each corner to the one behind it, from the last one to the first."""
    return list(zip(ring, ring[1:] + ring[:1]))


def least_way(rows, one, other, barred):
    """The shortest way between two corners that are not barred, None if there is none."""
    steps = steps_to(rows, other, barred)
    if one not in steps:
        return None
    way = [one]
    while way[-1] != other:
        left = steps[way[-1]] - 1
        way.append(min([corner for corner in rows[way[-1]] if steps.get(corner) == left]))
    return tuple(way)


def steps_to(rows, target, barred):
    """How many steps each corner, from which there is a way without barred ones, is away from a corner."""
    steps, reached, at = {target: 0}, [target], 0
    while at < len(reached):
        corner = reached[at]
        for other in rows[corner]:
            if other not in steps and other not in barred:
                steps[other] = steps[corner] + 1
                reached.append(other)
        at += 1
    return steps
