"""WEBS: corners, which of them are tied, and the parts into which they fall."""

from websolids.errors import (
    InvalidCorner,
    InvalidCorners,
    InvalidMany,
    InvalidNames,
    InvalidTies,
    InvalidWeb,
    NotTied,
    TooMany,
)
from websolids.kinds import has_unlike_counts, is_count_below, is_integer, is_listed, is_tuple_of, is_word

MOST_CORNERS = 20
MOST_TIES = 60
MOST_PASSED = 200


def is_web(value):
    """Whether any value is a WEB."""
    if not is_tuple_of(value, 3) or not is_word(value[0], "web") or not is_many(value[1]):
        return False
    many, ties = value[1], value[2]
    if not isinstance(ties, tuple) or len(ties) > MOST_TIES:
        return False
    if not all(is_pair(tie, many) and tie[0] < tie[1] for tie in ties):
        return False
    return all(tie < further for tie, further in zip(ties, ties[1:]))


def made_web(many, ties):
    """The web with so many corners and these ties, told in any sequence and direction."""
    if not is_many(many):
        raise InvalidMany(many)
    if not is_listed(ties) or len(ties) > MOST_PASSED or not all(is_pair(tie, many) for tie in ties):
        raise InvalidTies(ties)
    return web_of_pairs(many, ties)


def neighbours(web, corner):
    """The rising list of the corners that are tied to a corner."""
    check_web(web)
    check_corner(web, corner)
    return neighbour_rows(web)[corner]


def degree(web, corner):
    """How many neighbours a corner has."""
    return len(neighbours(web, corner))


def are_tied(web, one, other):
    """Whether two corners are tied."""
    check_web(web)
    check_corner(web, one)
    check_corner(web, other)
    return has_tie(web, one, other)


def with_tie(web, one, other):
    """The web with this tie."""
    check_web(web)
    check_corner(web, one)
    check_corner(web, other)
    if one == other:
        raise InvalidCorner(other)
    return web_of_pairs(web[1], web[2] + ((one, other),))


def without_tie(web, one, other):
    """The web without this tie."""
    if not are_tied(web, one, other):
        raise NotTied()
    return less_tie(web, one, other)


def is_joined(web):
    """Whether any two corners are joined."""
    check_web(web)
    return is_whole(neighbour_rows(web))


def parts_without(web, corners):
    """The sorted list of the parts of the web without some corners."""
    check_web(web)
    check_corners(web, corners)
    return parts_of(neighbour_rows(web), corners)


def renamed(web, names):
    """The web with, for each corner, the corner that stands at its place in a row."""
    check_web(web)
    many = web[1]
    if not is_listed(names) or len(names) != many or not has_unlike_counts(names, many):
        raise InvalidNames(names)
    return web_of_pairs(many, [(names[one], names[other]) for one, other in web[2]])


def is_many(value):
    """Whether any value is a number of corners that a web may have."""
    return is_integer(value) and 1 <= value <= MOST_CORNERS


def is_pair(value, many):
    """Whether any value is a tuple of two unlike COUNTS less than many."""
    return is_tuple_of(value, 2) and has_unlike_counts(value, many)


def check_web(value):
    """Raises what is told for a parameter that must be a WEB."""
    if not is_web(value):
        raise InvalidWeb(value)


def check_corner(web, value):
    """Raises what is told for a parameter that must be a corner of the web."""
    if not is_count_below(value, web[1]):
        raise InvalidCorner(value)


def check_many(many):
    """Raises what is told where there would be so many corners."""
    if many > MOST_CORNERS:
        raise TooMany("corners", MOST_CORNERS)


def check_corners(web, value):
    """Raises what is told for a parameter that must be a list of unlike corners of the web."""
    if not is_listed(value) or not has_unlike_counts(value, web[1]):
        raise InvalidCorners(value)


def web_of_pairs(many, pairs):
    """The web of pairs of unlike corners, some perhaps told more than once."""
    ties = sorted_ties(pairs)
    if len(ties) > MOST_TIES:
        raise TooMany("ties", MOST_TIES)
    return ("web", many, ties)


def less_tie(web, one, other):
    """What is known to be a web, without the tie of two corners."""
    lost = (min(one, other), max(one, other))
    return ("web", web[1], tuple([tie for tie in web[2] if tie != lost]))


def sorted_ties(pairs):
    """The sorted tuple of the ties of pairs of corners, each tie once."""
    return tuple(sorted(set([(min(pair), max(pair)) for pair in pairs])))


def has_tie(web, one, other):
    """Whether the web ties two of its corners."""
    return (min(one, other), max(one, other)) in web[2]


def neighbour_rows(web):
    """For each corner the rising list of its neighbours."""
    rows = [[] for _ in range(web[1])]
    for one, other in web[2]:
        rows[one].append(other)
        rows[other].append(one)
    # The ties are sorted: so each row rises.
    return rows


def reached_from(rows, start, barred):
    """The rising tuple of the corners to which ways lead from one that is not barred, by none that is barred."""
    reached, at = [start], 0
    while at < len(reached):
        corner = reached[at]
        reached.extend([other for other in rows[corner] if other not in reached and other not in barred])
        at += 1
    return tuple(sorted(reached))


def parts_of(rows, barred):
    """The sorted list of the parts of all corners that are not barred."""
    parts, known = [], list(barred)
    for corner in range(len(rows)):
        if corner not in known:
            part = reached_from(rows, corner, barred)
            parts.append(part)
            known.extend(part)
    return parts


def is_whole(rows):
    """Whether all corners are joined."""
    return len(reached_from(rows, 0, ())) == len(rows)
