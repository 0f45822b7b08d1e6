"""Equations: as many rows of RATIOS as there are numbers to be found."""

from websolids.errors import InvalidRight, InvalidRows
from websolids.kinds import is_listed
from websolids.ratios import is_ratio, lowest, shared_under, wholes_of

MOST_ROWS = 20


def solved_equations(rows, right):
    """The only solution, None if there is none, or more than one."""
    check_equations(rows, right)
    solutions = solved_table([whole_row(row, (worth,)) for row, worth in zip(rows, right)])
    return None if solutions is None else solutions[0]


def is_solution(rows, right, value):
    """Whether any value is a tuple that is a solution."""
    check_equations(rows, right)
    if not isinstance(value, tuple) or not is_ratio_row(value, len(rows)):
        return False
    # All over one under: sums of many RATIOS with long unlike unders would grow with each step.
    under = shared_under(value)
    numbers = wholes_of(value, under) + [-under]
    table = [whole_row(row, (worth,)) for row, worth in zip(rows, right)]
    return all(sum([part * number for part, number in zip(row, numbers)]) == 0 for row in table)


def check_equations(rows, right):
    """Raises what is told for rows and their right side."""
    if not is_listed(rows) or not 1 <= len(rows) <= MOST_ROWS:
        raise InvalidRows(rows)
    if not all(is_listed(row) and is_ratio_row(row, len(rows)) for row in rows):
        raise InvalidRows(rows)
    if not is_listed(right) or not is_ratio_row(right, len(rows)):
        raise InvalidRight(right)


def is_ratio_row(row, many):
    """Whether a list or tuple has so many RATIOS, and nothing else."""
    return len(row) == many and all(is_ratio(part) for part in row)


def whole_row(row, rights):
    """A row and its right sides, multiplied by the least number that makes them all INTEGERS."""
    parts = list(row) + list(rights)
    return wholes_of(parts, shared_under(parts))


def solved_table(table):
    """For each right side behind rows of INTEGERS its only solution, None if there is none, or more than one."""
    rows, many, before = list(table), len(table), 1
    for at in range(many):
        fit = [place for place in range(at, many) if rows[place][at] != 0]
        if not fit:
            return None
        rows[at], rows[fit[0]] = rows[fit[0]], rows[at]
        for place in range(at + 1, many):
            rows[place] = cleared(rows[place], rows[at], at, before)
        before = rows[at][at]
    return [read_back(rows, right) for right in range(many, len(rows[0]))]


def cleared(row, lead, at, before):
    """A row of INTEGERS made 0 at a place by the row that leads there."""
    # The number that led before divides all of these: so nothing grows longer than the determinants of the rows.
    return [(lead[at] * part - row[at] * fellow) // before for part, fellow in zip(row, lead)]


def read_back(rows, right):
    """The solution, for the right side at a place, of rows that have 0 ahead of their own numbers."""
    many = len(rows)
    # The last number is the determinant of all rows: multiplied by it the solution is whole.
    whole, found = rows[-1][many - 1], [0] * many
    for at in reversed(range(many)):
        rest = whole * rows[at][right] - sum([part * known for part, known in zip(rows[at], found)])
        found[at] = rest // rows[at][at]
    return tuple([lowest(part, whole) for part in found])
