"""Partings: few corners without which a web falls into parts."""

from websolids.kinds import is_count_tuple, is_rising, is_tuple_of, is_word
from websolids.webs import check_web, neighbour_rows, parts_of

MOST_IN_CUT = 2
FEWEST_CORNERS = 4


def parting(web):
    """A parting whose cut is as small as can be, None if there is none."""
    check_web(web)
    return least_parting(web)


def is_parting(web, value):
    """Whether any value is a parting of the web."""
    check_web(web)
    return is_tuple_of(value, 3) and is_word(value[0], "parts") and wrong_in_parting(web, value) is None


def least_cut(web):
    """How many corners the smallest cut of a parting has, None if there is no parting."""
    found = parting(web)
    return None if found is None else len(found[1])


def is_three_joined(web):
    """Whether the web has at least four corners and no parting."""
    check_web(web)
    return has_no_parting(web)


def wrong_in_parting(web, paper):
    """What is wrong in a tuple of three parts, the first of them "parts", None if it is a parting: a word of [115]."""
    many, cut, part = web[1], paper[1], paper[2]
    if not is_count_tuple(cut) or not is_count_tuple(part):
        return "form"
    if not is_rising(cut, many) or not is_rising(part, many):
        return "corners"
    if len(cut) > MOST_IN_CUT or not part or len(part) + len(cut) >= many or any(corner in cut for corner in part):
        return "corners"
    return "open" if any(leads_out(tie, part, cut) for tie in web[2]) else None


def least_parting(web):
    """A parting, with as few corners in its cut as can be, of what is known to be a web."""
    rows = neighbour_rows(web)
    for cut in small_cuts(web[1]):
        parts = parts_of(rows, cut)
        if len(parts) > 1:
            return ("parts", cut, parts[0])
    return None


def has_no_parting(web):
    """Whether what is known to be a web is three-joined."""
    return web[1] >= FEWEST_CORNERS and least_parting(web) is None


def small_cuts(many):
    """All rising tuples of at most two corners, those of fewer ones ahead."""
    pairs = [(one, other) for one in range(many) for other in range(one + 1, many)]
    return [()] + [(corner,) for corner in range(many)] + pairs


def leads_out(tie, part, cut):
    """Whether a tie leads from a corner of a part to one outside of both the part and the cut."""
    one, other = tie
    if one in part:
        return other not in part and other not in cut
    return other in part and one not in cut
