"""MAPS: a web with the sequence of the neighbours round each corner, and their rings."""

from websolids.errors import InvalidCorner, InvalidMap, InvalidRings
from websolids.kinds import has_counts_below, has_unlike_counts, is_integer, is_listed, is_tuple_of, is_word
from websolids.ways import backwards, ring_steps
from websolids.webs import check_corner, check_web, is_web, is_whole, neighbour_rows

MOST_PASSED = 120


def is_map(value):
    """Whether any value is a MAP."""
    if not is_tuple_of(value, 3) or not is_word(value[0], "map") or not is_web(value[1]):
        return False
    web, rounds = value[1], value[2]
    if not can_have_map(web) or not is_tuple_of(rounds, web[1]):
        return False
    if not all(is_round(each, row) for each, row in zip(rounds, neighbour_rows(web))):
        return False
    return web[1] - len(web[2]) + len(rings_in(rounds)) == 2


def rings_of(chart):
    """The sorted list of the rings of a map."""
    check_map(chart)
    return rings_in(chart[2])


def ring_left_of(chart, one, other):
    """The ring that has the step from one corner to the other."""
    check_map(chart)
    check_step(chart, one, other)
    return least_turning(ring_from((one, other), steps_ahead(chart[2])))


def mirror(chart):
    """The map with each round the other way about."""
    check_map(chart)
    return mirrored_chart(chart)


def map_of_rings(web, rings):
    """The map of the web whose rings these are, None if there is none."""
    check_web(web)
    if not is_listed(rings) or len(rings) > MOST_PASSED or not all(is_row(ring, web[1]) for ring in rings):
        raise InvalidRings(rings)
    follow = followers(rings)
    chart = ("map", web, tuple([round_of(follow.get(corner, {})) for corner in range(web[1])]))
    # What contradicts itself in the rings was passed over: so they are told by the map, or there is none.
    if not is_map(chart) or rings_in(chart[2]) != sorted([least_turning(ring) for ring in rings]):
        return None
    return chart


def check_map(value):
    """Raises what is told for a parameter that must be a MAP."""
    if not is_map(value):
        raise InvalidMap(value)


def check_step(chart, one, other):
    """Raises what is told for two parameters that must be a corner of a map, and a neighbour of it."""
    check_corner(chart[1], one)
    if not is_integer(other) or other not in chart[2][one]:
        raise InvalidCorner(other)


def mirrored_chart(chart):
    """What is known to be a map, mirrored."""
    return ("map", chart[1], tuple([backwards(row) for row in chart[2]]))


def places_of_steps(rings):
    """For each step of some rings the place of the ring that lies on its left."""
    return {step: place for place, ring in enumerate(rings) for step in ring_steps(ring)}


def can_have_map(web):
    """Whether the web is joined and has a tie, as that of a map."""
    return len(web[2]) > 0 and is_whole(neighbour_rows(web))


def is_round(value, row):
    """Whether any value is a tuple of the corners of a rising row, each once, the least one first."""
    if not is_tuple_of(value, len(row)) or not has_unlike_counts(value, row[-1] + 1):
        return False
    return value[0] == row[0] and sorted(value) == row


def is_row(value, many):
    """Whether any value has the form of a ring of a map: a tuple of 2 to 120 COUNTS less than many."""
    return isinstance(value, tuple) and 2 <= len(value) <= MOST_PASSED and has_counts_below(value, many)


def steps_ahead(rounds):
    """For each step the one that comes behind it."""
    ahead = {}
    for corner, row in enumerate(rounds):
        for at, before in enumerate(row):
            ahead[(before, corner)] = (corner, row[at - 1])
    return ahead


def ring_from(step, ahead):
    """The corners at which the steps of the ring begin that goes on from a step."""
    ring, further = [step[0]], ahead[step]
    while further != step:
        ring.append(further[0])
        further = ahead[further]
    return tuple(ring)


def rings_in(rounds):
    """The sorted list of the rings that rounds make."""
    ahead = steps_ahead(rounds)
    rings, known = [], {}
    for step in ahead:
        if step not in known:
            ring = ring_from(step, ahead)
            rings.append(least_turning(ring))
            for pair in ring_steps(ring):
                known[pair] = True
    return sorted(rings)


def least_turning(ring):
    """The ring written from that of its places on from which it is least."""
    return min([ring[at:] + ring[:at] for at in range(len(ring))])


def followers(rings):
    """For each corner, and each neighbour that rings tell for it, the neighbour that stands behind it in the round."""
    follow = {}
    for ring in rings:
        for at, corner in enumerate(ring):
            before, behind = ring[at - 1], ring[(at + 1) % len(ring)]
            row = follow.setdefault(corner, {})
            row[behind] = before
    return follow


def round_of(follow):
    """The round, from its least corner on, that is told by what stands behind each corner of it."""
    if not follow:
        return ()
    row = [min(follow)]
    while follow[row[-1]] not in row and follow[row[-1]] in follow:
        row.append(follow[row[-1]])
    return tuple(row)
