"""Writings and codes of maps, and namings of one map to another one."""

from websolids.errors import InvalidCode, InvalidNames, InvalidTie, InvalidWay
from websolids.kinds import has_unlike_counts, is_listed, is_tuple_of, is_word
from websolids.maps import check_map, is_map, mirrored_chart
from websolids.ways import from_least
from websolids.webs import MOST_CORNERS, has_tie, is_pair, sorted_ties, web_of_pairs

KEPT = "kept"
MIRRORED = "mirrored"


def writing(chart, tie, way):
    """The writing of a map from a tie in one direction, in one manner."""
    check_map(chart)
    if not is_pair(tie, chart[1][1]) or not has_tie(chart[1], tie[0], tie[1]):
        raise InvalidTie(tie)
    if not is_word(way, KEPT) and not is_word(way, MIRRORED):
        raise InvalidWay(way)
    rounds = chart[2] if way == KEPT else mirrored_chart(chart)[2]
    return written(numbered(rounds, tie))


def code(chart):
    """The least of the writings of a map."""
    check_map(chart)
    return least_writing(chart)


def is_code(value):
    """Whether any value is the code of a map."""
    if not isinstance(value, tuple) or not 2 <= len(value) <= MOST_CORNERS:
        return False
    if not all(isinstance(row, tuple) and row and has_unlike_counts(row, len(value)) for row in value):
        return False
    chart = read_chart(value)
    return is_map(chart) and least_writing(chart) == value


def chart_of_code(code):
    """The map of a code."""
    if not is_code(code):
        raise InvalidCode(code)
    return read_chart(code)


def renamed_chart(chart, names):
    """The map to which these names are a kept naming."""
    check_map(chart)
    if not is_listed(names) or not is_row_of_names(names, chart[1][1]):
        raise InvalidNames(names)
    rounds = [()] * len(names)
    for corner, row in enumerate(chart[2]):
        rounds[names[corner]] = from_least([names[other] for other in row])
    ties = [(names[one], names[other]) for one, other in chart[1][2]]
    return ("map", web_of_pairs(len(names), ties), tuple(rounds))


def is_naming(chart, other, value):
    """Whether any value is a naming of one map to another one."""
    check_map(chart)
    check_map(other)
    return leads_to(chart, other, value) or leads_to(mirrored_chart(chart), other, value)


def is_kept(chart, other, value):
    """Whether any value is a kept naming of one map to another one."""
    check_map(chart)
    check_map(other)
    return leads_to(chart, other, value)


def are_alike(chart, other):
    """Whether there is a naming of one map to another one."""
    return naming(chart, other) is not None


def naming(chart, other):
    """The least naming of one map to another one, None if there is none."""
    check_map(chart)
    check_map(other)
    return min(all_namings(chart, other), default=None)


def own_namings(chart):
    """The sorted list of the namings of a map to itself."""
    check_map(chart)
    return sorted(set(all_namings(chart, chart)))


def is_row_of_names(row, many):
    """Whether a list or tuple has each COUNT less than many once."""
    return len(row) == many and has_unlike_counts(row, many)


def leads_to(chart, other, value):
    """Whether any value is a tuple of names that leads the rounds of one map to those of another one."""
    many = chart[1][1]
    if not is_tuple_of(value, other[1][1]) or not is_row_of_names(value, many):
        return False
    named = [from_least([value[corner] for corner in row]) for row in chart[2]]
    return all(row == other[2][value[corner]] for corner, row in enumerate(named))


def numbered(rounds, step):
    """For each corner, in the sequence of their numbers from a step on, its round from the first one on."""
    first = {step[0]: step[1], step[1]: step[0]}
    rows, corners = {}, list(step)
    while len(rows) < len(corners):
        corner = corners[len(rows)]
        start = rounds[corner].index(first[corner])
        rows[corner] = rounds[corner][start:] + rounds[corner][:start]
        for other in rows[corner]:
            if other not in first:
                first[other] = corner
                corners.append(other)
    return rows


def written(rows):
    """The writing that numbered corners, with their rounds, make."""
    number = {corner: at for at, corner in enumerate(rows)}
    return tuple([tuple([number[other] for other in row]) for row in rows.values()])


def all_numbered(chart):
    """The corners of a map, with their rounds, numbered from each tie on, in both directions and manners."""
    found = []
    for rounds in (chart[2], mirrored_chart(chart)[2]):
        found.extend([numbered(rounds, (corner, other)) for corner, row in enumerate(rounds) for other in row])
    return found


def least_writing(chart):
    """The code of what is known to be a map."""
    return min([written(rows) for rows in all_numbered(chart)])


def read_chart(writing_rows):
    """What would be the map of a writing: the numbers as corners, each round from the least on."""
    ties = sorted_ties([(corner, other) for corner, row in enumerate(writing_rows) for other in row])
    return ("map", ("web", len(writing_rows), ties), tuple([from_least(row) for row in writing_rows]))


def all_namings(chart, other):
    """All namings of one map to another one, some perhaps more than once."""
    # A naming leads one tie to some tie, and by this it is known: so one writing is looked for among all others.
    rows = numbered(chart[2], (0, chart[2][0][0]))
    wanted, found = written(rows), []
    for fellows in all_numbered(other):
        if written(fellows) == wanted:
            names = {corner: name for corner, name in zip(rows, fellows)}
            found.append(tuple([names[corner] for corner in range(len(names))]))
    return found
