"""The tests' own looks at webs, ways, maps and papers, made without the package."""

import itertools


def is_number(value):
    """Whether it is an INTEGER."""
    return type(value) is int


def tied(web, one, other):
    """Whether two corners are tied."""
    return (min(one, other), max(one, other)) in set(web[2])


def beside(web, corner):
    """The rising list of neighbours."""
    return [other for other in range(web[1]) if other != corner and tied(web, corner, other)]


def lots_without(web, cut):
    """The sorted list of the parts of the web without some corners."""
    lots = [{corner} for corner in range(web[1]) if corner not in cut]
    for one, other in web[2]:
        if one not in cut and other not in cut:
            first = [lot for lot in lots if one in lot][0]
            second = [lot for lot in lots if other in lot][0]
            if first is not second:
                lots = [lot for lot in lots if lot is not first and lot is not second] + [first | second]
    return sorted([tuple(sorted(lot)) for lot in lots])


def looks_like_way(web, value):
    """Whether any value is a WAY."""
    if type(value) is not tuple or len(value) == 0 or not all([is_number(corner) for corner in value]):
        return False
    if min(value) < 0 or max(value) >= web[1] or len(set(value)) != len(value):
        return False
    return all([tied(web, value[at], value[at + 1]) for at in range(len(value) - 1)])


def all_ways_from(web, corner):
    """All ways that begin with a corner."""
    ways, found = [(corner,)], []
    while ways:
        way = ways.pop()
        found.append(way)
        ways += [way + (other,) for other in beside(web, way[-1]) if other not in way]
    return found


def looks_like_parting(web, value):
    """Whether a tuple of the right form is a parting of the web."""
    _, cut, side = value
    rest = set(range(web[1])) - set(cut) - set(side)
    if len(cut) > 2 or not side or not rest or set(cut) & set(side):
        return False
    return not any([tied(web, one, other) for one in side for other in rest])


def fewest_in_cut(web):
    """How many corners the smallest cut of a parting has, None if there is no parting."""
    for many in range(3):
        for cut in itertools.combinations(range(web[1]), many):
            if len(lots_without(web, cut)) > 1:
                return many
    return None


def least_barring(web, one, other):
    """How many corners bar all ways between two that are not tied."""
    rest = [corner for corner in range(web[1]) if corner not in (one, other)]
    for many in range(len(rest) + 1):
        for cut in itertools.combinations(rest, many):
            if bars(web, one, other, cut):
                return many
    return None


def bars(web, one, other, cut):
    """Whether no way leads between two corners without those of a cut."""
    return not any([one in lot and other in lot for lot in lots_without(web, cut)])


def most_by_cuts(web, one, other):
    """How many separate ways there are, told by cuts alone."""
    if not tied(web, one, other):
        return least_barring(web, one, other)
    less = tuple([tie for tie in web[2] if tie != (min(one, other), max(one, other))])
    return 1 + least_barring(("web", web[1], less), one, other)


def look_separate(web, one, other, ways):
    """Whether ways are separate ones from one corner to the other."""
    for way in ways:
        if not looks_like_way(web, way) or way[0] != one or way[-1] != other or len(way) < 2:
            return False
    if len(set(ways)) != len(ways):
        return False
    return not any([set(way[1:-1]) & set(further[1:-1]) for way, further in itertools.combinations(ways, 2)])


def rings_by_steps(rounds):
    """The rings of a map, each written as the least of its turnings, sorted."""
    steps = {(one, other) for one, row in enumerate(rounds) for other in row}
    rings = []
    while steps:
        first = min(steps)
        step, ring = first, []
        while step in steps:
            steps.remove(step)
            ring.append(step[0])
            row = rounds[step[1]]
            step = (step[1], row[row.index(step[0]) - 1])
        rings.append(min([tuple(ring[at:] + ring[:at]) for at in range(len(ring))]))
    return sorted(rings)


def looks_like_map(value):
    """Whether a value is a MAP: its web is known to be one."""
    if type(value) is not tuple or len(value) != 3 or value[0] != "map":
        return False
    web, rounds = value[1], value[2]
    if type(rounds) is not tuple or len(rounds) != web[1] or not web[2] or len(lots_without(web, ())) > 1:
        return False
    for corner, row in enumerate(rounds):
        if type(row) is not tuple or not all([is_number(other) for other in row]):
            return False
        if sorted(row) != beside(web, corner) or row[0] != min(row):
            return False
    return web[1] - len(web[2]) + len(rings_by_steps(rounds)) == 2


def looks_like_barred(web, value):
    """Whether a value is a barred part of the web."""
    if type(value) is not tuple or len(value) != 4 or value[0] != "barred":
        return False
    _, word, heads, ways = value
    if type(heads) is not tuple or type(ways) is not tuple or not all([is_number(head) for head in heads]):
        return False
    if len(set(heads)) != len(heads) or not set(heads) <= set(range(web[1])):
        return False
    if word == "five":
        right = len(heads) == 5 and list(heads) == sorted(heads)
        ends = list(itertools.combinations(heads, 2))
    else:
        right = word == "wells" and len(heads) == 6 and heads[0] == min(heads)
        right = right and sorted(heads[:3]) == list(heads[:3]) and sorted(heads[3:]) == list(heads[3:])
        ends = list(itertools.product(heads[:3], heads[3:]))
    if not right or not all([looks_like_way(web, way) for way in ways]):
        return False
    inner = [corner for way in ways for corner in way[1:-1]]
    return [(way[0], way[-1]) for way in ways] == ends and len(set(inner)) == len(inner) and not set(inner) & set(heads)
