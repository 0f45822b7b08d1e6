"""Solids with corners of whole numbers."""

from math import gcd

from websolids.anew import solid_of_map
from websolids.errors import InvalidRoom
from websolids.kinds import is_count_below
from websolids.ratios import ratio_greatest, shared_under, wholes_of
from websolids.solids import check_solid, is_solid, solid_map

MOST_TRIALS = 40
# Numbers of so many bits have at most 400 digits.
MOST_BITS = 1328


def scale(solid):
    """The least INTEGER that makes all numbers of the corners whole."""
    check_solid(solid)
    return least_scale(solid)


def enlarged(solid):
    """The solid with each number multiplied by its scale."""
    check_solid(solid)
    return solid_of_rows(whole_rows(solid), solid[2])


def greatest_size(solid):
    """The greatest size of all numbers of the corners."""
    check_solid(solid)
    return ratio_greatest([(abs(number), under) for number, under in numbers_of(solid)])


def shrunk(solid, room):
    """A shrunk solid, found by at most so many trials."""
    check_solid(solid)
    if not is_count_below(room, MOST_TRIALS + 1):
        raise InvalidRoom(room)
    rows = whole_rows(solid)
    if greatest_in(rows).bit_length() > MOST_BITS:
        # What may be told in more ways than one has no longer numbers; the map alone tells a solid with shorter ones.
        rows = rows_anew(solid)
    if room > 0:
        rows = brought_down(rows)
    if room > 1:
        rows = min(rows, brought_down(rows_anew(solid)), key=greatest_in)
    return solid_of_rows(nearer_rows(rows, solid[2], room - 2), solid[2])


def is_shrunk(solid, value):
    """Whether any value is a shrunk solid of the solid."""
    check_solid(solid)
    if not is_solid(value) or value[2] != solid[2] or least_scale(value) != 1:
        return False
    return greatest_in(whole_rows(value)) <= greatest_in(whole_rows(solid))


def numbers_of(solid):
    """The list of all numbers of the corners."""
    return [number for corner in solid[1] for number in corner]


def least_scale(solid):
    """The scale of what is known to be a solid."""
    return shared_under(numbers_of(solid))


def whole_rows(solid):
    """For each corner of what is known to be a solid its three numbers, multiplied by the scale."""
    under = least_scale(solid)
    return [wholes_of(corner, under) for corner in solid[1]]


def solid_of_rows(rows, rings):
    """What is a solid, if it is right, of rows of three INTEGERS and faces."""
    return ("solid", tuple([tuple([(number, 1) for number in row]) for row in rows]), rings)


def greatest_in(rows):
    """The greatest size of the INTEGERS of some rows."""
    return max([abs(number) for row in rows for number in row])


def rows_anew(solid):
    """Rows of three INTEGERS for the corners of a solid with the same faces that is made of the map alone."""
    return whole_rows(solid_of_map(solid_map(solid)))


def brought_down(rows):
    """Rows moved to the middle, each direction made less by what divides all its differences."""
    columns = [least_column([row[at] for row in rows]) for at in range(3)]
    return [[column[at] for column in columns] for at in range(len(rows))]


def least_column(numbers):
    """INTEGERS of one direction, not all alike, moved about 0, their differences divided by what divides all."""
    least, shared = min(numbers), 0
    for number in numbers:
        shared = gcd(shared, number - least)
    half = (max(numbers) - least) // shared // 2
    return [(number - least) // shared - half for number in numbers]


def nearer_rows(rows, rings, trials):
    """Rows put nearer to 0, and to each other, by so many trials, as long as they make a right solid."""
    left, shift = trials, greatest_in(rows).bit_length() // 2
    while left > 0 and shift > 0:
        nearer = [[halved(number, shift) for number in row] for row in rows]
        if is_solid(solid_of_rows(nearer, rings)):
            rows = nearer
        else:
            shift = shift // 2
        left = left - 1
    return rows


def halved(number, times):
    """The whole number nearest to a number that is halved so many times, at least once."""
    return (number + (1 << (times - 1))) >> times
