"""Barred parts: why a web can't be drawn without crossings."""

from websolids.drawing import blocks_of
from websolids.fitting import block_rings, rows_of_ties
from websolids.kinds import has_unlike_counts, is_count_tuple, is_rising, is_tuple_of, is_word
from websolids.ways import is_way_in
from websolids.webs import check_web

FIVE = "five"
WELLS = "wells"


def is_barred(web, value):
    """Whether any value is a barred part of the web."""
    check_web(web)
    return is_tuple_of(value, 4) and is_word(value[0], "barred") and wrong_in_barred(web, value) is None


def barred_part(web):
    """A barred part of the web, None if it has none."""
    check_web(web)
    for block in blocks_of(web):
        if block_rings(block) is None:
            return told_part(least_undrawn(web[1], block))
    return None


def can_be_drawn(web):
    """Whether the web can be drawn."""
    check_web(web)
    return ties_can_be_drawn(web[1], web[2])


def ties_can_be_drawn(many, ties):
    """Whether the web of these ties can be drawn."""
    return all(block_rings(block) is not None for block in blocks_of(("web", many, tuple(ties))))


def least_undrawn(many, ties):
    """Some of the ties, that can't be drawn, but could without any one of them."""
    kept = list(ties)
    for tie in ties:
        rest = [other for other in kept if other != tie]
        if not ties_can_be_drawn(many, rest):
            kept = rest
    return kept


def told_part(ties):
    """The barred part that is left as these ties."""
    rows = rows_of_ties(ties)
    heads = sorted([corner for corner in rows if len(rows[corner]) > 2])
    ways = {}
    for head in heads:
        for corner in rows[head]:
            way = followed_way(rows, head, corner)
            ways[(head, way[-1])] = way
    if len(heads) == 5:
        return ("barred", FIVE, tuple(heads), tuple([ways[pair] for pair in five_pairs(heads)]))
    houses = [head for head in heads if (heads[0], head) not in ways]
    told = tuple(houses + [head for head in heads if head not in houses])
    return ("barred", WELLS, told, tuple([ways[pair] for pair in wells_pairs(told)]))


def followed_way(rows, head, corner):
    """The way from a head by a neighbour of it to the next head."""
    way = [head, corner]
    while len(rows[way[-1]]) == 2:
        before, behind = rows[way[-1]]
        way.append(behind if before == way[-2] else before)
    return tuple(way)


def five_pairs(heads):
    """The sorted pairs of five heads."""
    return [(one, other) for at, one in enumerate(heads) for other in heads[at + 1:]]


def wells_pairs(heads):
    """The pairs of each of the first three heads and each of the last three."""
    return [(house, well) for house in heads[:3] for well in heads[3:]]


def wrong_in_barred(web, paper):
    """What is wrong in a tuple of four parts, the first of them "barred", None if it is right: a word of [115]."""
    word, heads, ways = paper[1], paper[2], paper[3]
    if not is_word(word, FIVE) and not is_word(word, WELLS):
        return "form"
    if not is_count_tuple(heads) or not isinstance(ways, tuple) or not all(is_count_tuple(way) for way in ways):
        return "form"
    if not (are_five_heads(web, heads) if word == FIVE else are_houses_and_wells(web, heads)):
        return "corners"
    pairs = five_pairs(heads) if word == FIVE else wells_pairs(heads)
    if len(ways) != len(pairs) or not all(way and has_unlike_counts(way, web[1]) for way in ways):
        return "corners"
    if not all(is_way_in(web, way) and (way[0], way[-1]) == pair for way, pair in zip(ways, pairs)):
        return "ties"
    inner = [corner for way in ways for corner in way[1:-1]]
    return "shared" if len(set(inner)) < len(inner) or any(corner in heads for corner in inner) else None


def are_five_heads(web, heads):
    """Whether a tuple of COUNTS is five rising corners."""
    return len(heads) == 5 and is_rising(heads, web[1])


def are_houses_and_wells(web, heads):
    """Whether a tuple of COUNTS is three houses and three wells as they are to be written."""
    if len(heads) != 6 or not has_unlike_counts(heads, web[1]):
        return False
    return is_rising(heads[:3], web[1]) and is_rising(heads[3:], web[1]) and heads[0] < heads[3]
