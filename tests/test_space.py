"""Tests of websolids.space."""

import itertools
import random
from fractions import Fraction
from math import gcd

from tests.checking import Checking
from tests.samples import junk
from websolids.errors import InvalidPlane, InvalidPoint, InvalidRatio, NoPlane
from websolids.space import (
    between, foot, is_flat_point, is_plane, is_point, meeting, plane_through, side, turn, turned_plane,
)

O, X, Y, Z = ((0, 1), (0, 1), (0, 1)), ((1, 1), (0, 1), (0, 1)), ((0, 1), (1, 1), (0, 1)), ((0, 1), (0, 1), (1, 1))
SLANT = (1, 1, 1, 1)
NO_POINTS = [
    O[:2], O + ((0, 1),), list(O), [[0, 1], [0, 1], [0, 1]], ((0, 1), (0, 1), [0, 1]), ((0, 1), (0, 2), (0, 1)),
    ((0, 1), (0, 1), (2, 4)), ((True, 1), (0, 1), (0, 1)), ((0, 1), (1, True), (0, 1)), ((0, 1), (0, 1), (1, 0)),
    ((1, -1), (0, 1), (0, 1)), (0, 0, 0), (0, 1, 2), ("0", "0", "0"), (None, (0, 1), (0, 1)), ((O,),), (O, O, O),
    {O[0]: O[1]}, ((0, 1), (0, 1), (0, 1, 1)), ((0, 1), (0, 1), "01"), SLANT,
]
NO_PLANES = [
    (0, 0, 0, 0), (0, 0, 0, 1), (2, 0, 0, 4), (0, 0, 2, 0), (-2, 4, 6, 8), (1, 0, 0), (1, 0, 0, 0, 0), [1, 0, 0, 1],
    (True, 0, 0, 1), (1, False, 0, 1), (1, 0, 0, True), (1, 0, 0, None), ("1", 0, 0, 0), ((1, 0), 0, 0, 1),
    ((1, 0, 0, 1),), (1, 0, 0, (1, 1)), O, O + ((1, 1),), (None, None, None, None), {1: 0},
]


def exact(point):
    """A point in Fractions."""
    return [Fraction(*part) for part in point]


def told(parts):
    """Fractions as a tuple of RATIOS."""
    return tuple([(Fraction(part).numerator, Fraction(part).denominator) for part in parts])


def product(row, other):
    """The product of lengths."""
    return sum([a * b for a, b in zip(row, other)])


def cross(row, other):
    """The cross row."""
    (a, b, c), (e, f, g) = row, other
    return [b * g - c * f, c * e - a * g, a * f - b * e]


def less(row, other):
    """Number by number."""
    return [a - b for a, b in zip(row, other)]


def signed(worth):
    """1, 0 or -1."""
    return 1 if worth > 0 else -1 if worth < 0 else 0


def some_points(seed, many):
    """Points by chance, some on one another, some on one line."""
    chance = random.Random(seed)
    points = []
    for _ in range(many):
        points.append(told([Fraction(chance.randrange(-3, 4), chance.choice([1, 1, 1, 2, 3])) for _ in range(3)]))
    return points


def some_planes(seed, many):
    """Planes by chance."""
    chance = random.Random(seed)
    planes = []
    while len(planes) < many:
        plane = tuple([chance.randrange(-3, 4) for _ in range(4)])
        if any(plane[:3]) and gcd(*plane) == 1:
            planes.append(plane)
    return planes


class KindsTest(Checking):

    def test_points(self):
        for value in [O, X, Y, Z, ((-1, 2), (3, 1), (10 ** 50, 7))]:
            self.yes(is_point(value))
            self.yes(is_point(value=value))
            self.yes(is_flat_point(value[:2]))
            self.yes(is_flat_point(value=value[1:]))
            self.no(is_flat_point(value))

    def test_no_points(self):
        for value in NO_POINTS + junk():
            self.no(is_point(value), value)
        for value in NO_POINTS + junk():
            if value != O[:2]:
                self.no(is_flat_point(value), value)
        for value in [((0, 1), (0, 2)), ((0, 1), (True, 1)), [(0, 1), (0, 1)], ((0, 1),), ((0, 1), [0, 1]), ((0, 1), 0)]:
            self.no(is_flat_point(value), value)

    def test_planes(self):
        for value in [(0, 0, 1, 0), (2, 0, 0, 1), (2, 4, 6, 3), (0, -1, 0, 7), (-2, 3, 0, 0), (10 ** 50, 0, 0, 3),
                      (6, 10, 15, 0), (0, 2, 0, -3)]:
            self.yes(is_plane(value), value)
            self.yes(is_plane(value=value), value)

    def test_no_planes(self):
        for value in NO_PLANES + junk():
            self.no(is_plane(value), value)

    def test_all_small_planes(self):
        for value in itertools.product((-2, 0, 1, 4), repeat=4):
            self.assertIs(is_plane(value), any(value[:3]) and gcd(*value) == 1, value)


class PlaneTest(Checking):

    def test_through_points(self):
        self.same(plane_through(O, X, Y), (0, 0, 1, 0))
        self.same(plane_through(third=Y, one=O, other=X), (0, 0, 1, 0))
        self.same(plane_through(O, Y, X), (0, 0, -1, 0))
        self.same(plane_through(X, Y, Z), SLANT)

    def test_through_points_by_chance(self):
        for seed in range(400):
            one, other, third = some_points(seed, 3)
            upright = cross(less(exact(other), exact(one)), less(exact(third), exact(one)))
            if not any(upright):
                self.refused(NoPlane, {}, plane_through, one, other, third)
                continue
            plane = plane_through(one, other, third)
            self.yes(is_plane(plane))
            self.assertGreater(product(plane[:3], upright), 0)
            self.assertFalse(any(cross(plane[:3], upright)))
            for point in (one, other, third):
                self.assertEqual(product(plane[:3], exact(point)), plane[3])
            self.same(plane_through(other, third, one), plane)
            self.same(plane_through(other, one, third), tuple([-part for part in plane]))

    def test_through_points_on_one_line(self):
        double = ((2, 1), (0, 1), (0, 1))
        for row in [(O, X, double), (O, O, X), (X, O, X), (O, X, X), (Y, Y, Y), (double, O, X)]:
            self.refused(NoPlane, {}, plane_through, *row)

    def test_with_large_numbers(self):
        big = 10 ** 59 + 3
        far = told([big, Fraction(1, big), -big])
        plane = plane_through(far, X, Y)
        self.yes(is_plane(plane))
        for point in (far, X, Y):
            self.assertEqual(side(plane, point), 0)

    def test_turned(self):
        self.same(turned_plane((0, 0, 1, 0)), (0, 0, -1, 0))
        self.same(turned_plane(plane=(2, -3, 0, 5)), (-2, 3, 0, -5))
        for plane in some_planes(1, 50):
            self.same(turned_plane(plane), tuple([-part for part in plane]))

    def test_side(self):
        self.same(side(SLANT, O), -1)
        self.same(side(SLANT, X), 0)
        self.same(side(point=((1, 1), (1, 3), (0, 1)), plane=SLANT), 1)
        for seed in range(100):
            for plane, point in zip(some_planes(seed, 5), some_points(seed, 5)):
                self.same(side(plane, point), signed(product(plane[:3], exact(point)) - plane[3]))
                self.same(side(turned_plane(plane), point), -side(plane, point))

    def test_foot(self):
        self.same(foot(SLANT, O), ((1, 3), (1, 3), (1, 3)))
        self.same(foot(point=X, plane=SLANT), X)
        for seed in range(100):
            for plane, point in zip(some_planes(seed, 4), some_points(seed, 4)):
                value = foot(plane, point)
                self.yes(is_point(value))
                self.assertEqual(product(plane[:3], exact(value)), plane[3])
                self.assertFalse(any(cross(plane[:3], less(exact(value), exact(point)))))
                self.same(foot(turned_plane(plane), point), value)

    def test_meeting(self):
        self.same(meeting((1, 0, 0, 2), (0, 1, 0, 3), (0, 0, 2, 1)), ((2, 1), (3, 1), (1, 2)))
        self.same(meeting(third=(0, 0, 2, 1), plane=(1, 0, 0, 2), other=(0, 1, 0, 3)), ((2, 1), (3, 1), (1, 2)))
        met = 0
        for seed in range(300):
            planes = some_planes(seed, 3)
            rows = [plane[:3] for plane in planes]
            value = meeting(*planes)
            if product(rows[0], cross(rows[1], rows[2])) == 0:
                self.assertIsNone(value)
                continue
            met += 1
            self.yes(is_point(value))
            for plane in planes:
                self.assertEqual(product(plane[:3], exact(value)), plane[3])
            self.same(meeting(planes[2], planes[0], turned_plane(planes[1])), value)
        self.assertGreater(met, 100)

    def test_no_meeting(self):
        a, b = (1, 0, 0, 2), (0, 1, 0, 3)
        for row in [(a, (1, 0, 0, 3), (0, 0, 1, 0)), (a, a, b), (a, a, a), (a, turned_plane(a), b),
                    (a, b, (1, 1, 0, 5)), (a, b, (1, 1, 0, 7)), (b, (0, 1, 0, 4), (0, 1, 0, 5))]:
            self.assertIsNone(meeting(*row))

    def test_between(self):
        self.same(between(O, X, (1, 2)), ((1, 2), (0, 1), (0, 1)))
        self.same(between(part=(-1, 3), other=X, one=Y), ((-1, 3), (4, 3), (0, 1)))
        for seed in range(60):
            one, other = some_points(seed, 2)
            self.same(between(one, other, (0, 1)), one)
            self.same(between(one, other, (1, 1)), other)
            self.same(between(one, one, (7, 3)), one)
            for part in [(1, 2), (-2, 1), (5, 3), (10 ** 50, 3)]:
                want = [p + Fraction(*part) * (q - p) for p, q in zip(exact(one), exact(other))]
                self.same(between(one, other, part), told(want))


class TurnTest(Checking):

    def test_turns(self):
        flat = [((0, 1), (0, 1)), ((1, 1), (0, 1)), ((1, 1), (1, 1))]
        self.same(turn(*flat), 1)
        self.same(turn(third=flat[0], other=flat[1], one=flat[2]), -1)
        self.same(turn(flat[0], flat[1], ((3, 1), (0, 1))), 0)
        self.same(turn(flat[0], flat[0], flat[1]), 0)
        self.same(turn(flat[0], flat[1], ((-3, 1), (0, 1))), 0)

    def test_turns_by_chance(self):
        for seed in range(300):
            p, q, r = [point[:2] for point in some_points(seed, 3)]
            (px, py), (qx, qy), (rx, ry) = exact(p), exact(q), exact(r)
            want = signed((qx - px) * (ry - qy) - (qy - py) * (rx - qx))
            self.same(turn(p, q, r), want)
            self.same(turn(q, r, p), want)
            self.same(turn(q, p, r), -want)


class RefusalTest(Checking):

    def test_planes_are_looked_at(self):
        for value in NO_PLANES + junk():
            self.refused(InvalidPlane, {"value": value}, turned_plane, value)
            self.refused(InvalidPlane, {"value": value}, turned_plane, plane=value)
            self.refused(InvalidPlane, {"value": value}, side, value, O)
            self.refused(InvalidPlane, {"value": value}, foot, value, O)
            self.refused(InvalidPlane, {"value": value}, side, point="later", plane=value)
            self.refused(InvalidPlane, {"value": value}, foot, point="later", plane=value)
            self.refused(InvalidPlane, {"value": value}, meeting, value, SLANT, SLANT)
            self.refused(InvalidPlane, {"value": value}, meeting, SLANT, value, SLANT)
            self.refused(InvalidPlane, {"value": value}, meeting, SLANT, SLANT, value)
            self.refused(InvalidPlane, {"value": value}, meeting, third=None, other="later", plane=value)
            self.refused(InvalidPlane, {"value": value}, meeting, third="later", other=value, plane=SLANT)

    def test_points_are_looked_at(self):
        for value in NO_POINTS + junk():
            self.refused(InvalidPoint, {"value": value}, side, SLANT, value)
            self.refused(InvalidPoint, {"value": value}, foot, point=value, plane=SLANT)
            self.refused(InvalidPoint, {"value": value}, plane_through, value, value, X)
            self.refused(InvalidPoint, {"value": value}, plane_through, O, value, O)
            self.refused(InvalidPoint, {"value": value}, plane_through, O, O, value)
            self.refused(InvalidPoint, {"value": value}, plane_through, third="later", other="later", one=value)
            self.refused(InvalidPoint, {"value": value}, plane_through, third="later", other=value, one=O)
            self.refused(InvalidPoint, {"value": value}, between, value, O, (1, 2))
            self.refused(InvalidPoint, {"value": value}, between, O, value, (1, 2))
            self.refused(InvalidPoint, {"value": value}, between, part=(2, 4), other="later", one=value)
            self.refused(InvalidPoint, {"value": value}, between, part=(2, 4), other=value, one=O)

    def test_flat_points_are_looked_at(self):
        flat = ((0, 1), (0, 1))
        for value in [value for value in NO_POINTS + junk() + [O] if value != O[:2]]:
            self.refused(InvalidPoint, {"value": value}, turn, value, flat, flat)
            self.refused(InvalidPoint, {"value": value}, turn, flat, value, flat)
            self.refused(InvalidPoint, {"value": value}, turn, flat, flat, value)
            self.refused(InvalidPoint, {"value": value}, turn, third="later", other="later", one=value)
            self.refused(InvalidPoint, {"value": value}, turn, third="later", other=value, one=flat)

    def test_parts_are_looked_at(self):
        for value in [(2, 4), (True, 1), [1, 2], (1, 0), 1, None, "1/2", (1, -2), O, (0, 2), ((1, 2),)]:
            self.refused(InvalidRatio, {"value": value}, between, O, X, value)
            self.refused(InvalidRatio, {"value": value}, between, part=value, one=O, other=X)
