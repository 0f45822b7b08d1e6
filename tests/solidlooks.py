"""The tests' own looks at points, planes and solids, in Fractions, made without the package."""

import itertools
from fractions import Fraction
from math import gcd, lcm

from tests.looks import is_number


def exact(point):
    """A point in Fractions."""
    return [Fraction(*part) for part in point]


def product(row, other):
    """The product of lengths."""
    return sum([a * b for a, b in zip(row, other)])


def less(row, other):
    """One row less another one."""
    return [a - b for a, b in zip(row, other)]


def cross(row, other):
    """The cross row."""
    (a, b, c), (e, f, g) = row, other
    return [b * g - c * f, c * e - a * g, a * f - b * e]


def upright(p, q, r):
    """The outward direction of the plane through three points of Fractions, counterclockwise seen from above."""
    return cross(less(q, p), less(r, p))


def is_ratio(value):
    """Whether any value is a RATIO."""
    if type(value) is not tuple or len(value) != 2 or not all([is_number(part) for part in value]):
        return False
    return value[1] > 0 and gcd(*value) == 1


def steps_of(ring):
    """The steps of a ring."""
    return [(ring[at], ring[(at + 1) % len(ring)]) for at in range(len(ring))]


def has_solid_form(value):
    """Whether any value has the form of a solid, right or not."""
    if type(value) is not tuple or len(value) != 3 or type(value[0]) is not str or value[0] != "solid":
        return False
    _, corners, faces = value
    if type(corners) is not tuple or not 4 <= len(corners) <= 20 or type(faces) is not tuple:
        return False
    for corner in corners:
        if type(corner) is not tuple or len(corner) != 3 or not all([is_ratio(part) for part in corner]):
            return False
    for ring in faces:
        if type(ring) is not tuple or len(ring) < 3 or not all([is_number(corner) for corner in ring]):
            return False
        if len(set(ring)) < len(ring) or min(ring) < 0 or max(ring) >= len(corners) or ring[0] != min(ring):
            return False
    return list(faces) == sorted(faces)


def looks_like_solid(value):
    """Whether any value is a right solid, by the sums of [8]."""
    if not has_solid_form(value):
        return False
    _, corners, faces = value
    steps = [step for ring in faces for step in steps_of(ring)]
    if len(faces) < 4 or {corner for ring in faces for corner in ring} != set(range(len(corners))):
        return False
    if len(set(steps)) < len(steps) or {(v, u) for u, v in steps} != set(steps):
        return False
    points = [exact(corner) for corner in corners]
    return all([lies_right(points, ring) for ring in faces])


def lies_right(points, ring):
    """Whether a face lies on a plane below which all other corners are, and turns left there."""
    outward = upright(*[points[corner] for corner in ring[:3]])
    if outward == [0, 0, 0]:
        return False
    level = product(outward, points[ring[0]])
    for corner, point in enumerate(points):
        rise = product(outward, point) - level
        if (rise != 0) if corner in ring else (rise >= 0):
            return False
    for p, q, r in itertools.combinations([points[corner] for corner in ring], 3):
        if product(outward, cross(less(q, p), less(r, q))) <= 0:
            return False
    return True


def plane_of(solid, position):
    """The outward direction and the level of a face, in Fractions."""
    points = [exact(solid[1][corner]) for corner in solid[2][position][:3]]
    outward = upright(*points)
    return outward, product(outward, points[0])


def rises_of(solid, point):
    """For each face how much the point lies above its plane, measured by some length."""
    planes = [plane_of(solid, position) for position in range(len(solid[2]))]
    return [product(outward, exact(point)) - level for outward, level in planes]


def ties_of(solid):
    """The sorted tuple of the ties that are sides of faces."""
    return tuple(sorted({(min(step), max(step)) for ring in solid[2] for step in steps_of(ring)}))


def from_least(row):
    """A row from its least part on."""
    at = row.index(min(row))
    return tuple(row[at:] + row[:at])


def spoilt(solid):
    """Values that are no right solids, made of one that is."""
    word, corners, faces = solid
    face, point = faces[0], corners[0]
    middle = tuple([sum([Fraction(*corner[at]) for corner in corners]) / len(corners) for at in range(3)])
    middle = tuple([(part.numerator, part.denominator) for part in middle])
    long = [at for at, ring in enumerate(faces) if len(ring) > 3]
    wrong = [list(solid), solid[:2], solid + ((),), (corners, faces), ("solids", corners, faces), (b"solid", corners, faces),
             (None, corners, faces), (["solid"], corners, faces), (word, faces, corners), (word, list(corners), faces),
             (word, corners, list(faces)), (word, corners[:-1], faces), (word, corners + (point,), faces), (word, (), ()),
             (word, corners + (middle,), faces), (word, corners[1:] + corners[:1], faces), (word, corners, faces[1:]),
             (word, corners, faces[:-1]), (word, corners, faces + faces[-1:]), (word, corners, faces[:1] + faces),
             (word, corners, faces[::-1]), (word, corners, faces[1:] + faces[:1]), (word, corners, None), (word, None, faces),
             (word, corners, ()), (word, corners, (face[1:] + face[:1],) + faces[1:]), (word, corners, dict.fromkeys(faces)),
             (word, corners, (face[:1] + face[:0:-1],) + faces[1:]), (word, corners, (list(face),) + faces[1:]),
             (word, corners, (face[:2],) + faces[1:]), (word, corners, (face + face[-1:],) + faces[1:]),
             (word, corners, (face[:-1] + (len(corners),),) + faces[1:]), (word, corners, (face[:-1] + (-1,),) + faces[1:]),
             (word, corners, (face[:-1] + (None,),) + faces[1:]), (word, corners, ((False,) + face[1:],) + faces[1:]),
             (word, corners, tuple(sorted([ring[:1] + ring[:0:-1] for ring in faces]))),
             (word, corners, tuple(sorted(faces[1:] + (face[:1] + face[:0:-1],)))),
             (word, tuple([corner[:2] for corner in corners]), faces), (word, (list(point),) + corners[1:], faces),
             (word, ((point[0], point[1], list(point[2])),) + corners[1:], faces),
             (word, ((point[0], point[1], point[2][:1]),) + corners[1:], faces), (word, (None,) + corners[1:], faces),
             (word, ((point[0], point[1], (point[2][0] * 2, point[2][1] * 2)),) + corners[1:], faces),
             (word, ((point[0], point[1], (point[2][0], -point[2][1])),) + corners[1:], faces),
             (word, (corners[1],) + corners[1:], faces),
             (word, tuple([((0, 1),) + corner[1:] for corner in corners]), faces),
             (word, tuple([((-corner[0][0], corner[0][1]),) + corner[1:] for corner in corners]), faces)]
    if any([0 in faces[at] for at in long]):
        wrong.append((word, (middle,) + corners[1:], faces))
    for at in long[:3]:
        ring = faces[at]
        parted = (ring[:3], (ring[0],) + ring[2:])
        wrong.append((word, corners, tuple(sorted(faces[:at] + parted + faces[at + 1:]))))
        wrong.append((word, corners, tuple(sorted(faces[:at] + ((ring[0],) + ring[2:],) + faces[at + 1:]))))
        crossed = (ring[0], ring[2], ring[1]) + ring[3:]
        wrong.append((word, corners, tuple(sorted(faces[:at] + (crossed,) + faces[at + 1:]))))
    return wrong


def whole_plane(solid, position):
    """(a, b, c, d) of a face's plane: INTEGERS without a common divisor."""
    outward, level = plane_of(solid, position)
    parts = outward + [level]
    under = lcm(*[part.denominator for part in parts])
    wholes = [int(part * under) for part in parts]
    return [whole // gcd(*wholes) for whole in wholes]


def size_of(solid):
    """The size of a solid, by tetrahedra from (0, 0, 0)."""
    points = [exact(corner) for corner in solid[1]]
    total = Fraction(0)
    for ring in solid[2]:
        for one, other in zip(ring[1:], ring[2:]):
            total += product(points[ring[0]], cross(points[one], points[other]))
    return total / 6
