"""Deeds on webs of solids: corners cut off, faces raised, ties laid across, webs put together."""

from websolids.errors import InvalidRing, InvalidRound, NoSolid, NotAcross, UnlikeRounds
from websolids.faces import plain_rings_of
from websolids.made import chart_or_none
from websolids.ways import from_least, is_ring, is_round_in, lesser_way_round
from websolids.webs import check_corner, check_many, check_web, has_tie, neighbour_rows, web_of_pairs


def cut_corner(web, corner):
    """The web with a corner cut."""
    check_web(web)
    check_corner(web, corner)
    around = solid_chart(web)[2][corner]
    many = web[1] + len(around) - 1
    check_many(many)
    names = names_of_cut(corner, neighbour_rows(web)[corner], web[1])
    kept = [tie for tie in web[2] if corner not in tie]
    led = [(names[other], other) for other in around]
    beside = [(names[other], names[around[at - 1]]) for at, other in enumerate(around)]
    return web_of_pairs(many, kept + led + beside)


def raise_face(web, ring):
    """The web with a face raised."""
    if not is_ring(web, ring):
        raise InvalidRing(ring)
    if lesser_way_round(ring) not in plain_rings_of(solid_chart(web)):
        raise InvalidRing(ring)
    check_many(web[1] + 1)
    return web_of_pairs(web[1] + 1, list(web[2]) + [(corner, web[1]) for corner in ring])


def tie_across(web, one, other):
    """The web with a tie across one of its faces."""
    check_web(web)
    check_corner(web, one)
    check_corner(web, other)
    shared = [ring for ring in plain_rings_of(solid_chart(web)) if one in ring and other in ring]
    if not shared or one == other or has_tie(web, one, other):
        raise NotAcross()
    return web_of_pairs(web[1], list(web[2]) + [(one, other)])


def glued(first, one_round, second, other_round):
    """Two webs put together at a face of each."""
    check_web(first)
    check_round_in(first, one_round)
    check_web(second)
    check_round_in(second, other_round)
    charts = [solid_chart(first), solid_chart(second)]
    for chart, told in zip(charts, (one_round, other_round)):
        if lesser_way_round(from_least(told)) not in plain_rings_of(chart):
            raise InvalidRound(told)
    if len(one_round) != len(other_round):
        raise UnlikeRounds()
    many = first[1] + second[1] - len(one_round)
    check_many(many)
    further = [corner for corner in range(second[1]) if corner not in other_round]
    names = dict(zip(list(other_round) + further, list(one_round) + list(range(first[1], many))))
    return web_of_pairs(many, list(first[2]) + [(names[one], names[other]) for one, other in second[2]])


def check_round_in(web, value):
    """Raises what is told for a parameter that must be a round of what is known to be a web."""
    if not is_round_in(web, value):
        raise InvalidRound(value)


def solid_chart(web):
    """A map of what is known to be a web, which must be a solid web."""
    chart = chart_or_none(web)
    if chart is None:
        raise NoSolid()
    return chart


def names_of_cut(corner, row, many):
    """For each of the rising neighbours of a corner that is cut the name of the new corner on the tie to it."""
    return dict(zip(row, [corner] + list(range(many, many + len(row) - 1))))
