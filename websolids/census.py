"""All kinds of webs of solids with few corners."""

from websolids.codes import least_writing, read_chart
from websolids.drawing import drawn
from websolids.errors import InvalidMany, NoKind
from websolids.kinds import is_count_below, is_integer
from websolids.made import chart_or_none
from websolids.maps import check_map, check_step
from websolids.partings import has_no_parting
from websolids.webs import MOST_TIES, check_web, less_tie, web_of_pairs

FEWEST = 4
MOST = 6
FIRST_FULL = ("web", 4, ((0, 1), (0, 2), (0, 3), (1, 2), (1, 3), (2, 3)))


def all_codes(many):
    """The sorted list of the kinds with so many corners."""
    check_bounds(many)
    return all_kinds(many)


def codes_with(many, ties):
    """The sorted list of the kinds with so many corners and ties."""
    check_bounds(many)
    if not is_count_below(ties, MOST_TIES + 1):
        raise InvalidMany(ties)
    return [kind for kind in all_kinds(many) if sum([len(row) for row in kind]) == 2 * ties]


def kind_of(web):
    """The position of a web's kind in the list for its number of corners."""
    check_web(web)
    if not FEWEST <= web[1] <= MOST:
        raise NoKind()
    chart = chart_or_none(web)
    if chart is None:
        raise NoKind()
    return all_kinds(web[1]).index(least_writing(chart))


def can_take_out(chart, one, other):
    """Whether a tie of a map of a web of a solid may be taken out."""
    check_map(chart)
    check_step(chart, one, other)
    if not has_no_parting(chart[1]):
        raise NoKind()
    return has_no_parting(less_tie(chart[1], one, other))


def check_bounds(value):
    """Raises what is told for a parameter that must be a number of corners of the census."""
    if not is_integer(value) or not FEWEST <= value <= MOST:
        raise InvalidMany(value)


def all_kinds(many):
    """The sorted list of the kinds with so many corners, four at least."""
    found, latest = [], full_kinds(many)
    while latest:
        found.extend(latest)
        # Kinds that aren't full come of those with one tie more.
        webs = [read_chart(kind)[1] for kind in latest]
        fewer = [less_tie(web, one, other) for web in webs for one, other in web[2]]
        latest = kinds_of([web for web in fewer if has_no_parting(web)])
    return sorted(found)


def full_kinds(many):
    """The sorted list of the full kinds with so many corners: all their rings have three."""
    kinds = kinds_of([FIRST_FULL])
    for _ in range(FEWEST, many):
        kinds = kinds_of([web for kind in kinds for web in grown(read_chart(kind))])
    return kinds


def kinds_of(webs):
    """The sorted list of the kinds of webs of solids, each once."""
    return sorted(set([least_writing(drawn(web)) for web in webs]))


def grown(chart):
    """The full webs that come of a full map by a new corner, none, one or two ties of one corner taken out for it."""
    webs, many = [], chart[1][1]
    for corner, row in enumerate(chart[2]):
        twice = row + row
        for at in range(len(row)):
            for lost in range(min(3, len(row) - 1)):
                ring = (corner,) + twice[at:at + lost + 2]
                barred = [(min(corner, other), max(corner, other)) for other in ring[2:-1]]
                kept = [tie for tie in chart[1][2] if tie not in barred]
                webs.append(web_of_pairs(many + 1, kept + [(other, many) for other in ring]))
    return webs
