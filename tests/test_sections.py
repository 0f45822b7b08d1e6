"""Tests of websolids.sections."""

import random
from fractions import Fraction
from math import gcd, lcm

from tests import samples, solidsamples
from tests.checking import Checking
from tests.solidlooks import (
    cross, exact, from_least, less, looks_like_solid, product, size_of, ties_of, upright, whole_plane,
)
from tests.solidsamples import told
from tests.test_solids import CUBE, NO_SOLIDS, TENT
from tests.test_space import NO_PLANES
from websolids.errors import InvalidPlane, InvalidSolid, TooMany
from websolids.hulls import hull, is_hull
from websolids.sections import halves, section

O, W, HALF = (0, 1), (1, 1), (1, 2)
EDGE = ("solid", ((O, O, O), (W, O, O), (O, W, O), (O, O, W)), ((0, 1, 3), (0, 2, 1), (0, 3, 2), (1, 2, 3)))


def plane_of_rows(outward, level):
    """The PLANE of an outward direction and a level in Fractions."""
    parts = [Fraction(part) for part in list(outward) + [level]]
    under = lcm(*[part.denominator for part in parts])
    wholes = [int(part * under) for part in parts]
    return tuple([whole // gcd(*wholes) for whole in wholes])


def through(one, other, third):
    """The PLANE through three points of Fractions, not on one line; None if they are."""
    outward = upright(one, other, third)
    return None if outward == [0, 0, 0] else plane_of_rows(outward, product(outward, one))


def planes_for(solid, seed):
    """Planes of many kinds: of faces, through corners, along ties, at middles of ties, beside, each turned too."""
    chance = random.Random(seed)
    points = [exact(corner) for corner in solid[1]]
    planes = [tuple(whole_plane(solid, at)) for at in chance.sample(range(len(solid[2])), 2)]
    for _ in range(3):
        planes.append(through(*chance.sample(points, 3)))
        one, other = chance.choice(ties_of(solid))
        far = [Fraction(chance.randrange(-9, 9), 2) for _ in range(3)]
        planes.append(through(points[one], points[other], far))
        middles = [[(p + q) / 2 for p, q in zip(points[a], points[b])] for a, b in chance.sample(ties_of(solid), 3)]
        planes.append(through(*middles))
        outward = [chance.randrange(-5, 6) for _ in range(2)] + [chance.randrange(1, 5)]
        levels = [product(outward, point) for point in points]
        for level in (min(levels), max(levels), max(levels) + 1, min(levels) - 1, (min(levels) + max(levels)) / 2):
            planes.append(plane_of_rows(outward, level))
    planes = [plane for plane in planes if plane is not None]
    return planes + [tuple([-part for part in plane]) for plane in planes]


def looked_at(solid, plane):
    """The set of the points of the section, as [131] tells."""
    points = [exact(corner) for corner in solid[1]]
    rises = [product(plane, point) - plane[3] for point in points]
    found = {solid[1][at] for at, rise in enumerate(rises) if rise == 0}
    for one, other in ties_of(solid):
        if rises[one] * rises[other] < 0:
            part = rises[one] / (rises[one] - rises[other])
            found.add(told([p + part * (q - p) for p, q in zip(points[one], points[other])]))
    return found


def drum(many):
    """A ring of so many corners below and one above, turned against it: each corner has four ties."""
    points = []
    for at in range(2 * many):
        part = Fraction(2 * at - 2 * many + 1, 2 * many)
        x, y = (1 - part * part) / (1 + part * part), 2 * part / (1 + part * part)
        points.append(told((x, y, at % 2)))
    return hull(points)


class SectionTest(Checking):

    def looked(self, solid, plane):
        """Looks at the section by a plane; how many points it has."""
        points = section(solid, plane)
        self.assertIs(type(points), list)
        self.assertEqual(set(points), looked_at(solid, plane))
        self.assertEqual(len(set(points)), len(points))
        rows = [exact(point) for point in points]
        if len(rows) > 0:
            self.assertEqual(rows[0], min(rows))
        for at in range(len(rows) if len(rows) > 2 else 0):
            one, other = rows[at], rows[(at + 1) % len(rows)]
            for third in rows:
                if third not in (one, other):
                    self.assertGreater(product(plane, cross(less(other, one), less(third, one))), 0)
        return len(points)

    def test_planes_of_all_kinds(self):
        found = {}
        for seed, solid in enumerate(solidsamples.solids()):
            for plane in planes_for(solid, seed):
                many = self.looked(solid, plane)
                found[many] = found.get(many, 0) + 1
        self.assertGreater(min([found.get(many, 0) for many in (0, 1, 2, 3, 4, 5)]), 10, found)

    def test_planes_of_faces(self):
        for solid in solidsamples.solids():
            for at, ring in enumerate(solid[2]):
                plane = tuple(whole_plane(solid, at))
                row = [solid[1][corner] for corner in ring]
                start = row.index(min(row, key=exact))
                row = row[start:] + row[:start]
                self.same(section(solid, plane), row)
                self.same(section(solid, tuple([-part for part in plane])), row[:1] + row[:0:-1])

    def test_known(self):
        self.same(section(EDGE, (0, 0, 2, 1)), [(O, O, HALF), (HALF, O, HALF), (O, HALF, HALF)])
        self.same(section(plane=(0, 0, -2, -1), solid=EDGE), [(O, O, HALF), (O, HALF, HALF), (HALF, O, HALF)])
        self.same([section(EDGE, (1, 1, 1, 0)), section(EDGE, (1, 1, 1, 5))], [[(O, O, O)], []])
        self.same(section(EDGE, (-1, 0, -1, 0)), [(O, O, O), (O, W, O)])
        self.same(section(EDGE, (1, 0, 1, 0)), [(O, O, O), (O, W, O)])
        self.same(section(EDGE, (1, 1, 0, 1)), [(W, O, O), (O, W, O)][::-1])
        self.same(section(EDGE, (1, -1, 0, 0)), [(O, O, O), (HALF, HALF, O), (O, O, W)])
        self.same(len(section(CUBE, (2, 2, 2, 3))), 6)

    def test_lesser_by_numbers_and_not_as_tuples(self):
        # (1, 2) is less than (1, 3) as a tuple, but one half is more than one third.
        third, half = told((Fraction(1, 3), 0, 0)), told((HALF[0] * Fraction(1, 2), 0, 0))
        solid = hull([third, half, told((Fraction(2, 5), 1, 0)), told((Fraction(2, 5), 0, 1))])
        self.same(section(solid, (0, 1, 1, 0)), [third, half])
        self.same(section(solid, (0, -1, -1, 0)), [third, half])
        for seed in range(30):
            points = solidsamples.bowl(6, seed + 100)
            self.looked(hull(points), through(*[exact(point) for point in random.Random(seed).sample(points, 3)]))

    def test_long_numbers(self):
        long = 10 ** 59 + 7
        for plane in [(1, 1, long, 5), (long, -long + 1, 3, 1), (2 * long, 2 * long, 2 * long, 3 * long - 2)]:
            self.looked(CUBE, plane)
            self.looked(solidsamples.solids()[6], plane)

    def test_new_list(self):
        self.new_list(section, CUBE, (2, 2, 2, 3))
        self.new_list(section, CUBE, (2, 2, 2, -3))


class HalvesTest(Checking):

    def looked(self, solid, plane):
        """Looks at the halves by a plane; which of them are there."""
        told_halves = halves(solid, plane)
        self.assertIs(type(told_halves), tuple)
        rises = [product(plane, exact(corner)) - plane[3] for corner in solid[1]]
        common = looked_at(solid, plane)
        for half, sign in zip(told_halves, (-1, 1)):
            there = [corner for corner, rise in zip(solid[1], rises) if rise * sign > 0]
            self.assertIs(half is None, not there)
            if half is not None:
                self.assertTrue(looks_like_solid(half))
                self.assertEqual(list(half[1]), sorted(set(there) | common))
                self.yes(is_hull(half[1], half))
                self.same(half, hull(half[1]))
        both = [half for half in told_halves if half is not None]
        self.assertEqual(sum([size_of(half) for half in both]), size_of(solid))
        if len(both) == 2:
            row = section(solid, plane)
            self.assertGreater(len(row), 2)
            below, above = [from_least([half[1].index(point) for point in way]) for half, way in zip(both, (row, row[::-1]))]
            self.assertIn(below, both[0][2])
            self.assertIn(above, both[1][2])
        return tuple([half is not None for half in told_halves])

    def test_planes_of_all_kinds(self):
        found, refused = {}, 0
        for seed, solid in enumerate(solidsamples.solids()):
            for plane in planes_for(solid, seed)[::4]:
                rises = [product(plane, exact(corner)) - plane[3] for corner in solid[1]]
                many = [len([rise for rise in rises if rise * sign > 0]) for sign in (1, -1)]
                if max([part + len(looked_at(solid, plane)) for part in many if part]) > 20:
                    self.refused(TooMany, {"what": "corners", "limit": 20}, halves, solid, plane)
                    refused += 1
                    continue
                kind = self.looked(solid, plane)
                found[kind] = found.get(kind, 0) + 1
        self.assertEqual(len(found), 3)
        self.assertGreater(min(found.values()), 20, found)
        self.assertGreater(refused, 0)

    def test_known(self):
        self.same([len(half[1]) for half in halves(EDGE, (0, 0, 2, 1))], [6, 4])
        self.same([len(half[1]) for half in halves(plane=(0, 0, -2, -1), solid=EDGE)], [4, 6])
        self.same(halves(EDGE, (1, 1, 1, 1))[1], None)
        self.same(halves(EDGE, (1, 1, 1, 1))[0], hull(EDGE[1]))
        self.same(halves(EDGE, (1, 1, 1, 0)), (None, hull(EDGE[1])))
        self.same(halves(EDGE, (1, 1, 1, 9)), (hull(EDGE[1]), None))
        self.same(halves(EDGE, (1, 1, 1, -9)), (None, hull(EDGE[1])))
        self.same([len(half[1]) for half in halves(CUBE, (1, -1, 0, 0))], [6, 6])

    def test_too_many(self):
        for many, there in [(5, True), (6, True), (7, False), (10, False)]:
            solid = drum(many)
            self.same((len(solid[1]), len(solid[2])), (2 * many, 2 * many + 2))
            for plane in [(0, 0, 2, 1), (0, 0, -3, -1), (1, 1, 900, 400)]:
                if there:
                    self.assertEqual(self.looked(solid, plane), (True, True))
                    self.same([len(half[1]) for half in halves(solid, plane)], [3 * many] * 2)
                else:
                    self.refused(TooMany, {"what": "corners", "limit": 20}, halves, solid, plane)
                    self.refused(TooMany, {"what": "corners", "limit": 20}, halves, plane=plane, solid=solid)
        # Of a solid with 20 corners the half above has few corners, the half below more than 20.
        twenty = hull(solidsamples.bowl(20, 3))
        first, second = sorted([exact(corner)[0] for corner in twenty[1]])[-2:]
        for outward in ((1, 0, 0), (-1, 0, 0)):
            plane = plane_of_rows(outward, outward[0] * (first + second) / 2)
            self.refused(TooMany, {"what": "corners", "limit": 20}, halves, twenty, plane)
            self.refused(TooMany, {"what": "corners", "limit": 20}, halves, plane=plane, solid=twenty)
        self.assertEqual(self.looked(twenty, plane_of_rows((1, 0, 0), second)), (True, False))


class RefusalTest(Checking):

    def test_solids_and_planes_are_looked_at(self):
        for call in (section, halves):
            for value in NO_SOLIDS:
                self.refused(InvalidSolid, {"value": value}, call, value, (1, 0, 0, 0))
                self.refused(InvalidSolid, {"value": value}, call, plane=None, solid=value)
            for value in NO_PLANES + samples.junk():
                self.refused(InvalidPlane, {"value": value}, call, TENT, value)
                self.refused(InvalidPlane, {"value": value}, call, plane=value, solid=CUBE)
