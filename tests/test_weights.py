"""Tests of websolids.weights."""

import itertools
import random
from fractions import Fraction

from tests import samples, solidsamples
from tests.checking import Checking
from tests.solidlooks import cross, exact, from_least, less, looks_like_solid, plane_of, product, rises_of, size_of
from tests.solidsamples import told
from tests.test_solids import CUBE, NO_SOLIDS, TENT
from websolids.errors import InvalidPosition, InvalidSolid
from websolids.sections import halves
from websolids.soliddeeds import mirrored, moved
from websolids.weights import foot_on, height_square, middle_of, outward, size

O, I, TWO = (0, 1), (1, 1), (2, 1)
BIG = ("solid", ((O, O, O), (TWO, O, O), (O, TWO, O), (O, O, TWO)), ((0, 1, 3), (0, 2, 1), (0, 3, 2), (1, 2, 3)))
AT_FACES = (outward, foot_on, height_square)


def looked_middle(solid):
    """The middle of weight, by tetrahedra from (0, 0, 0)."""
    points, total = [exact(corner) for corner in solid[1]], [Fraction(0)] * 3
    for ring in solid[2]:
        for one, other in zip(ring[1:], ring[2:]):
            corners = [points[ring[0]], points[one], points[other]]
            part = product(corners[0], cross(corners[1], corners[2])) / 6
            total = [t + part * sum(column) / 4 for t, column in zip(total, zip(*corners))]
    return [t / size_of(solid) for t in total]


def looked_outward(solid, position):
    """The outward of a face, by the products of neighbours in its ring."""
    points = [exact(solid[1][corner]) for corner in solid[2][position]]
    total = [Fraction(0)] * 3
    for one, other in zip(points, points[1:] + points[:1]):
        total = [t + part / 2 for t, part in zip(total, cross(one, other))]
    return total


def renamed(solid, seed):
    """The same solid with its corners in another sequence."""
    names = list(range(len(solid[1])))
    random.Random(seed).shuffle(names)
    corners = [None] * len(names)
    for corner, point in enumerate(solid[1]):
        corners[names[corner]] = point
    rings = [from_least([names[corner] for corner in ring]) for ring in solid[2]]
    return ("solid", tuple(corners), tuple(sorted(rings))), rings


class WeightsTest(Checking):

    def test_sizes_and_middles(self):
        for solid in solidsamples.solids():
            self.same(size(solid), told([size_of(solid)])[0])
            self.assertGreater(size(solid)[0], 0)
            self.same(middle_of(solid), told(looked_middle(solid)))
            self.assertLess(max(rises_of(solid, middle_of(solid))), 0)

    def test_outwards(self):
        for solid in solidsamples.solids():
            rows = []
            for at in range(len(solid[2])):
                row = outward(solid, at)
                self.same(row, told(looked_outward(solid, at)))
                rows.append(exact(row))
                upright, _ = plane_of(solid, at)
                self.assertEqual(cross(upright, rows[-1]), [0, 0, 0])
                self.assertGreater(product(upright, rows[-1]), 0)
            self.assertEqual([sum(column) for column in zip(*rows)], [0, 0, 0])
            worths = [product(row, exact(solid[1][ring[-1]])) for row, ring in zip(rows, solid[2])]
            self.assertEqual(sum(worths) / 3, size_of(solid))

    def test_feet_and_heights(self):
        for solid in solidsamples.solids():
            middle = exact(middle_of(solid))
            for at in range(len(solid[2])):
                foot = exact(foot_on(solid, at))
                upright, level = plane_of(solid, at)
                self.assertEqual(product(upright, foot), level)
                self.assertEqual(cross(upright, less(foot, middle)), [0, 0, 0])
                way = less(foot, middle)
                self.same(height_square(solid, at), told([product(way, way)])[0])

    def test_the_names_do_not_matter(self):
        for seed, solid in enumerate(solidsamples.solids()):
            other, rings = renamed(solid, seed)
            self.same(size(other), size(solid))
            self.same(middle_of(other), middle_of(solid))
            for at, ring in enumerate(rings):
                place = other[2].index(ring)
                for call in AT_FACES:
                    self.same(call(other, place), call(solid, at))

    def test_moved_mirrored_stretched(self):
        for seed, solid in enumerate(solidsamples.solids()):
            chance = random.Random(seed)
            by = told([Fraction(chance.randrange(-9, 9), 3) for _ in range(3)])
            longer = [Fraction(chance.randrange(1, 9), 2) for _ in range(3)]
            matrix = tuple([tuple([told([part])[0] if at == row else O for at in range(3)]) for row,
                            part in enumerate(longer)])
            other = moved(solid, matrix, by)
            self.assertEqual(Fraction(*size(other)), Fraction(*size(solid)) * longer[0] * longer[1] * longer[2])
            wanted = [part * place + step for part, place, step in zip(longer, exact(middle_of(solid)), exact(by))]
            self.same(middle_of(other), told(wanted))
            turned = mirrored(solid)
            self.same(size(turned), size(solid))
            middle = middle_of(solid)
            self.same(middle_of(turned), ((-middle[0][0], middle[0][1]),) + middle[1:])
            for at, ring in enumerate(solid[2]):
                x, y, z = outward(solid, at)
                self.same(outward(turned, turned[2].index(ring[:1] + ring[:0:-1])), ((-x[0], x[1]), y, z))

    def test_halves_together(self):
        for solid in solidsamples.solids()[:6]:
            middle = exact(middle_of(solid))
            told_halves = halves(CUBE, (2, 2, 4, 3))
            parts = [Fraction(*size(half)) for half in told_halves]
            self.assertEqual(sum(parts), 1)
            rows = [[part * place for place in exact(middle_of(half))] for part, half in zip(parts, told_halves)]
            self.assertEqual([sum(column) for column in zip(*rows)], exact(middle_of(CUBE)))
            self.assertEqual(len(middle), 3)

    def test_known(self):
        third = told([Fraction(1, 2)] * 3)
        self.same([size(BIG), middle_of(BIG), outward(BIG, 1), outward(BIG, 3), foot_on(BIG, 1), height_square(BIG, 1),
                   height_square(BIG, 3)],
                  [(4, 3), third, (O, O, (-2, 1)), (TWO, TWO, TWO), ((1, 2), (1, 2), O), (1, 4), (1, 12)])
        self.same([size(solid=CUBE), middle_of(solid=CUBE)], [I, third])
        self.same(outward(position=1, solid=BIG), (O, O, (-2, 1)))
        self.same(foot_on(position=1, solid=BIG), ((1, 2), (1, 2), O))
        self.same(height_square(position=3, solid=BIG), (1, 12))
        for x, y, z in itertools.product((1, 3), (Fraction(1, 7), 2), (5,)):
            solid = solidsamples.box(x, y, z)
            self.same(size(solid), told([Fraction(x) * y * z])[0])
            self.same(middle_of(solid), told([Fraction(x, 2), Fraction(y) / 2, Fraction(z, 2)]))

    def test_long_numbers(self):
        long = 10 ** 59 + 1
        self.assertNotEqual(long % 7, 0)
        solid = ("solid", ((O, O, O), ((long, 1), O, O), (O, (1, long), O), (O, O, (long, 7))), BIG[2])
        self.assertTrue(looks_like_solid(solid))
        self.same(size(solid), told([Fraction(long, 42)])[0])
        self.same(middle_of(solid), told([Fraction(long, 4), Fraction(1, 4 * long), Fraction(long, 28)]))


class RefusalTest(Checking):

    def test_solids_are_looked_at(self):
        for value in NO_SOLIDS:
            for call in (size, middle_of):
                self.refused(InvalidSolid, {"value": value}, call, value)
                self.refused(InvalidSolid, {"value": value}, call, solid=value)
            for call in AT_FACES:
                self.refused(InvalidSolid, {"value": value}, call, value, 99)
                self.refused(InvalidSolid, {"value": value}, call, position=None, solid=value)

    def test_positions_are_looked_at(self):
        for call in AT_FACES:
            for value in [v for v in samples.junk() if v not in (0, 1, 2) or isinstance(v, bool)] + [4, 6, -1, "0",
                (0,), [0]]:
                self.refused(InvalidPosition, {"value": value}, call, TENT, value)
                self.refused(InvalidPosition, {"value": value}, call, position=value, solid=TENT)
            self.refused(InvalidPosition, {"value": 6}, call, CUBE, 6)
