"""Points as rows of four INTEGERS, and planes through them: how they lie, told by whole numbers alone."""

from math import gcd

from websolids.ratios import shared_under, wholes_of


def whole_point(point):
    """A POINT as (x, y, z, under): three INTEGERS and the least one above 0 by which they are divided."""
    under = shared_under(point)
    x, y, z = wholes_of(point, under)
    return (x, y, z, under)


def whole_cross(row, other):
    """The row that stands upright on two rows, told by the first three INTEGERS of each."""
    (a, b, c), (e, f, g) = row[:3], other[:3]
    return (b * g - c * f, c * e - a * g, a * f - b * e)


def whole_product(row, other):
    """The product of lengths of two rows, told by the first three INTEGERS of each."""
    return row[0] * other[0] + row[1] * other[1] + row[2] * other[2]


def spanned(one, other, third):
    """(a, b, c, d) of the plane through three whole points, counterclockwise seen from above; all 0 on one line."""
    first, second, last = whole_cross(one, other), whole_cross(other, third), whole_cross(third, one)
    a, b, c = [third[3] * p + one[3] * q + other[3] * r for p, q, r in zip(first, second, last)]
    return (a, b, c, whole_product(first, third))


def whole_rise(plane, point):
    """Above 0 if a whole point lies above a plane, 0 on it, below 0 below it."""
    return whole_product(plane, point) - plane[3] * point[3]


def is_no_plane(plane):
    """Whether three points that should span a plane lie on one line."""
    return plane[:3] == (0, 0, 0)


def least_plane(plane):
    """The PLANE that these four INTEGERS tell, without a common divisor."""
    shared = gcd(plane[0], plane[1], plane[2], plane[3])
    return tuple([part // shared for part in plane])
