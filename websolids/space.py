"""Points, flat points and planes, and how they lie."""

from math import gcd, lcm

from websolids.errors import InvalidPlane, InvalidPoint, InvalidRatio, NoPlane
from websolids.kinds import is_integer, is_tuple_of
from websolids.ratios import is_ratio, ratio_contrary, ratio_inverse, ratio_less, ratio_plus, ratio_sign, ratio_sum
from websolids.ratios import ratio_times


def is_point(value):
    """Whether any value is a POINT."""
    return is_tuple_of(value, 3) and all(is_ratio(part) for part in value)


def is_flat_point(value):
    """Whether any value is a FLAT POINT."""
    return is_tuple_of(value, 2) and all(is_ratio(part) for part in value)


def is_plane(value):
    """Whether any value is a PLANE."""
    if not is_tuple_of(value, 4) or not all(is_integer(part) for part in value):
        return False
    a, b, c, d = value
    return (a, b, c) != (0, 0, 0) and gcd(a, b, c, d) == 1


def plane_through(one, other, third):
    """The plane through three points, seen from above counterclockwise."""
    for point in (one, other, third):
        check_point(point)
    upright = cross_row(row_less(other, one), row_less(third, one))
    if upright == ((0, 1), (0, 1), (0, 1)):
        raise NoPlane()
    a, b, c = upright
    return whole_plane(a, b, c, length_product(upright, one))


def turned_plane(plane):
    """The plane seen from its other side."""
    check_plane(plane)
    return tuple([-part for part in plane])


def side(plane, point):
    """1 if the point lies above the plane, 0 on it, -1 below."""
    check_plane(plane)
    check_point(point)
    return ratio_sign(rise(plane, point))


def turn(one, other, third):
    """1 if three flat points turn left, -1 right, 0 on one line."""
    for point in (one, other, third):
        if not is_flat_point(point):
            raise InvalidPoint(point)
    first, second = row_less(other, one), row_less(third, other)
    return ratio_sign(ratio_less(ratio_times(first[0], second[1]), ratio_times(first[1], second[0])))


def foot(plane, point):
    """The point of the plane that is nearest to a point."""
    check_plane(plane)
    check_point(point)
    outward = outward_row(plane)
    part = ratio_times(rise(plane, point), ratio_inverse(length_product(outward, outward)))
    return row_plus(point, row_times(outward, ratio_contrary(part)))


def meeting(plane, other, third):
    """The one point of three planes, None if there is none, or more."""
    planes = (plane, other, third)
    for each in planes:
        check_plane(each)
    rows = [outward_row(each) for each in planes]
    crosses = [cross_row(rows[1], rows[2]), cross_row(rows[2], rows[0]), cross_row(rows[0], rows[1])]
    worth = length_product(rows[0], crosses[0])
    if worth == (0, 1):
        return None
    total = ((0, 1), (0, 1), (0, 1))
    for each, cross in zip(planes, crosses):
        total = row_plus(total, row_times(cross, (each[3], 1)))
    return row_times(total, ratio_inverse(worth))


def between(one, other, part):
    """The point at a part of the way from one point to the other."""
    check_point(one)
    check_point(other)
    if not is_ratio(part):
        raise InvalidRatio(part)
    return point_between(one, other, part)


def check_point(value):
    """Raises what is told for a parameter that must be a POINT."""
    if not is_point(value):
        raise InvalidPoint(value)


def check_plane(value):
    """Raises what is told for a parameter that must be a PLANE."""
    if not is_plane(value):
        raise InvalidPlane(value)


def whole_plane(a, b, c, d):
    """The PLANE of four RATIOS, the first three not all 0."""
    scale = lcm(a[1], b[1], c[1], d[1])
    wholes = [number * (scale // under) for number, under in (a, b, c, d)]
    shared = gcd(wholes[0], wholes[1], wholes[2], wholes[3])
    return tuple([whole // shared for whole in wholes])


def outward_row(plane):
    """The outward direction of a plane, as a row of RATIOS."""
    return tuple([(part, 1) for part in plane[:3]])


def rise(plane, point):
    """How much the sum of a point by a plane is more than the plane's own: above 0 above the plane."""
    return ratio_less(length_product(outward_row(plane), point), (plane[3], 1))


def length_product(row, other):
    """The product of lengths of two rows of RATIOS."""
    return ratio_sum([ratio_times(part, fellow) for part, fellow in zip(row, other)])


def cross_row(row, other):
    """The row that stands upright on two rows of three RATIOS."""
    (a, b, c), (e, f, g) = row, other
    return (
        ratio_less(ratio_times(b, g), ratio_times(c, f)),
        ratio_less(ratio_times(c, e), ratio_times(a, g)),
        ratio_less(ratio_times(a, f), ratio_times(b, e)),
    )


def row_plus(row, other):
    """The sum of two rows of RATIOS, number by number."""
    return tuple([ratio_plus(part, fellow) for part, fellow in zip(row, other)])


def row_less(row, other):
    """The first row of RATIOS less the second one, number by number."""
    return tuple([ratio_less(part, fellow) for part, fellow in zip(row, other)])


def row_times(row, worth):
    """A row of RATIOS, each number multiplied by a RATIO."""
    return tuple([ratio_times(part, worth) for part in row])


def point_between(one, other, part):
    """The point at a part of the way between what are known to be points."""
    return row_plus(one, row_times(row_less(other, one), part))


def crossing(one, other, first_rise, last_rise):
    """The point between two points at which a plane is crossed, above which they rise by so much."""
    return point_between(one, other, ratio_times(first_rise, ratio_inverse(ratio_less(first_rise, last_rise))))


def middle_of_rows(rows):
    """The sum of rows of RATIOS, number by number, divided by how many rows they are."""
    total = rows[0]
    for row in rows[1:]:
        total = row_plus(total, row)
    return row_times(total, (1, len(rows)))
