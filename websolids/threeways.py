"""Separate ways between two corners, and the cuts that bar further ones."""

from websolids.errors import AreTied, InvalidCorner, NotThreeJoined
from websolids.kinds import is_listed, is_rising
from websolids.partings import has_no_parting
from websolids.ways import is_way_in
from websolids.webs import check_corner, check_web, has_tie, neighbour_rows, reached_from

ENTERED = "entered"
LEFT = "left"


def most_separate(web, one, other):
    """The greatest number of separate ways between two corners."""
    return len(separate_ways(web, one, other))


def separate_ways(web, one, other):
    """As many separate ways as there can be from one corner to the other."""
    check_ends(web, one, other)
    return all_ways(web, one, other)


def are_separate(web, one, other, value):
    """Whether any value is a list of separate ways from one corner to the other."""
    check_ends(web, one, other)
    return are_separate_in(web, one, other, value)


def cut_between(web, one, other):
    """A cut with as few corners as can be."""
    check_ends(web, one, other)
    if has_tie(web, one, other):
        raise AreTied()
    came = found_ways(neighbour_rows(web), one, other)[1]
    # No way enters one of these corners anew and leaves it: they are the last places come to on each way.
    return tuple([corner for corner in range(web[1]) if (corner, ENTERED) in came and (corner, LEFT) not in came])


def is_cut(web, one, other, value):
    """Whether any value is a cut between two corners."""
    check_ends(web, one, other)
    if has_tie(web, one, other) or not is_rising(value, web[1]) or one in value or other in value:
        return False
    return other not in reached_from(neighbour_rows(web), one, value)


def three_ways(web, one, other):
    """Three separate ways from one corner to the other."""
    check_ends(web, one, other)
    if not has_no_parting(web):
        raise NotThreeJoined()
    return all_ways(web, one, other)[:3]


def is_three_ways(web, one, other, value):
    """Whether any value is a list of three separate ways from one corner to the other."""
    check_ends(web, one, other)
    return are_separate_in(web, one, other, value) and len(value) == 3


def check_ends(web, one, other):
    """Raises what is told for a web and two unlike corners of it."""
    check_web(web)
    check_corner(web, one)
    check_corner(web, other)
    if other == one:
        raise InvalidCorner(other)


def are_separate_in(web, one, other, value):
    """Whether any value is a list of separate ways between corners of what is known to be a web."""
    if not is_listed(value):
        return False
    if not all(is_way_in(web, way) and way[0] == one and way[-1] == other for way in value):
        return False
    inner = [corner for way in value for corner in way[1:-1]]
    # Of ways without inner corners there is but one, the tie of both.
    straight = [way for way in value if len(way) == 2]
    return len(set(inner)) == len(inner) and len(straight) <= 1


def all_ways(web, one, other):
    """As many separate ways as there can be, the tie of both corners ahead."""
    rows = neighbour_rows(web)
    if not has_tie(web, one, other):
        return found_ways(rows, one, other)[0]
    rows[one].remove(other)
    rows[other].remove(one)
    return [(one, other)] + found_ways(rows, one, other)[0]


def found_ways(rows, one, other):
    """Separate ways between corners that are not tied, and what the search that found no further one came to."""
    ways = []
    came = search(rows, one, other, ways)
    while (other, ENTERED) in came:
        ways = one_more(ways, came, one, other)
        came = search(rows, one, other, ways)
    return ways, came


def search(rows, one, other, ways):
    """For each place that a further way comes to, a corner entered or left, the place from which it comes."""
    ahead = {}
    for way in ways:
        for corner, following in zip(way, way[1:-1]):
            ahead[following] = corner
    came, places, at = {(one, LEFT): None}, [(one, LEFT)], 0
    while at < len(places) and (other, ENTERED) not in came:
        for place in next_places(rows, ahead, places[at]):
            if place not in came:
                came[place] = places[at]
                places.append(place)
        at += 1
    return came


def next_places(rows, ahead, place):
    """Where a further way may go on: in a corner of a way that is there it can only go back along that way."""
    corner, manner = place
    if manner == ENTERED:
        return [(ahead.get(corner, corner), LEFT)]
    entered = [(other, ENTERED) for other in rows[corner]]
    return entered + [(corner, ENTERED)] if corner in ahead else entered


def one_more(ways, came, one, other):
    """The ways that come of these and of the further one that a search found."""
    steps = {}
    for way in ways:
        for corner, following in zip(way, way[1:]):
            steps[(corner, following)] = True
    place = (other, ENTERED)
    while came[place] is not None:
        corner, following = came[place][0], place[0]
        if place[1] == ENTERED and corner != following:
            steps[(corner, following)] = True
        elif corner != following:
            # Going back along a way: this step and the way's own one cancel.
            del steps[(following, corner)]
        place = came[place]
    return followed(list(steps), one, other)


def followed(steps, one, other):
    """The ways from one corner to the other that steps make."""
    after = {corner: following for corner, following in steps if corner != one}
    ways = []
    for corner, following in steps:
        if corner == one:
            way = [one, following]
            while way[-1] != other:
                way.append(after[way[-1]])
            ways.append(tuple(way))
    return ways
