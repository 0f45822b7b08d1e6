"""A block drawn: a ring of it, and ways put into rings, one behind the other."""

from websolids.ways import least_way
from websolids.webs import reached_from


def block_rings(block):
    """The rings of a map of a block, a sorted tuple of ties; None if it can't be drawn."""
    if len(block) == 1:
        return [block[0]]
    rows = rows_of_ties(block)
    if len(block) > 3 * len(rows) - 6:
        return None
    ring = least_way(rows_of_ties(block[1:]), block[0][0], block[0][1], ())
    rings, left = [ring, ring[::-1]], without_path(block, ring + ring[:1])
    while left:
        on_rings = {corner: True for each in rings for corner in each}
        choices, piece, places = narrowest(pieces_of(left, on_rings), on_rings, rings)
        if choices == 0:
            return None
        way = way_across(piece, on_rings)
        rings = rings[:places[0]] + halves_of(rings[places[0]], way) + rings[places[0] + 1:]
        left = without_path(left, way)
    return rings


def rows_of_ties(ties):
    """For each corner of some ties the list of its neighbours by these."""
    rows = {}
    for one, other in ties:
        rows.setdefault(one, []).append(other)
        rows.setdefault(other, []).append(one)
    return rows


def without_path(ties, path):
    """The list of the ties but for those between neighbours in a path."""
    lost = [(min(pair), max(pair)) for pair in zip(path, path[1:])]
    return [tie for tie in ties if tie not in lost]


def pieces_of(left, on_rings):
    """The lots of ties that hang together at corners that aren't drawn."""
    rows = rows_of_ties(left)
    found = [[tie] for tie in left if tie[0] in on_rings and tie[1] in on_rings]
    known = list(on_rings)
    for corner in rows:
        if corner not in known:
            lot = reached_from(rows, corner, on_rings)
            known.extend(lot)
            found.append([tie for tie in left if tie[0] in lot or tie[1] in lot])
    return found


def narrowest(pieces, on_rings, rings):
    """Into how many rings a piece with the fewest of them can go, the piece, and the places of these rings."""
    marks = [marked(ring) for ring in rings]
    choices = []
    for piece in pieces:
        touched = marked([corner for tie in piece for corner in tie if corner in on_rings])
        places = [place for place, mark in enumerate(marks) if touched & mark == touched]
        choices.append((len(places), piece, places))
    return min(choices)


def marked(corners):
    """A number with one bit for each of the corners."""
    mark = 0
    for corner in corners:
        mark = mark | 1 << corner
    return mark


def way_across(piece, on_rings):
    """A way through a piece between two drawn corners, by none else that is drawn."""
    rows = rows_of_ties(piece)
    drawn_ones = sorted([corner for corner in rows if corner in on_rings])
    return least_way(rows, drawn_ones[0], drawn_ones[1], drawn_ones[2:])


def halves_of(ring, way):
    """The two rings into which a way between two of its corners parts a ring."""
    start = ring.index(way[0])
    turned = ring[start:] + ring[:start]
    end = turned.index(way[-1])
    return [way[:-1] + turned[end:], turned[:end] + way[:0:-1]]
