"""Tests of websolids.soliddeeds."""

import random
from fractions import Fraction

from tests import samples, solidsamples
from tests.checking import Checking
from tests.solidlooks import (
    cross, exact, from_least, less, looks_like_solid, product, rises_of, size_of, steps_of, ties_of, whole_plane,
)
from tests.solidsamples import told
from tests.test_solids import CUBE, NO_SOLIDS, TENT
from tests.test_space import NO_POINTS
from websolids.errors import InvalidCorner, InvalidMatrix, InvalidPoint, InvalidPosition, InvalidSolid, Singular, TooMany
from websolids.hulls import hull
from websolids.maps import mirror
from websolids.soliddeeds import cut_off, mirrored, moved, raised
from websolids.solids import map_of, web_of
from websolids.webdeeds import cut_corner, raise_face

O, W, TWO, NEG = (0, 1), (1, 1), (2, 1), (-1, 1)
CENTRE = (O, O, O)
SAME = ((W, O, O), (O, W, O), (O, O, W))
PIECE = ("solid", ((O, O, O), (W, O, O), (O, W, O), (O, O, W)), ((0, 1, 3), (0, 2, 1), (0, 3, 2), (1, 2, 3)))
CORNERS = {"what": "corners", "limit": 20}
NO_MATRICES = [
    SAME[:2], SAME + SAME[:1], list(SAME), ([W, O, O], (O, W, O), (O, O, W)), ((W, O), (O, W), (O, O)), (SAME,),
    ((1, 0, 0), (0, 1, 0), (0, 0, 1)), (SAME[0], SAME[1], (O, O, (2, 2))), (SAME[0], SAME[1], (O, O, (True, 1))),
    (SAME[0], SAME[1], (O, O, (1, -1))), (SAME[0], SAME[1], (O, O, 1)), (SAME[0], None, SAME[2]), SAME[0], {0: SAME},
    (SAME[0], SAME[1], (O, O, [1, 1])), (SAME[0], SAME[1], SAME[2] + (O,)), SAME[:1] + (((W, O, O),),) + SAME[2:],
]


def looked_cut(solid, corner):
    """The points on the ties of a corner that is cut off: for each neighbour one, as [127] tells."""
    lot = [whole_plane(solid, at)[:3] for at, ring in enumerate(solid[2]) if corner in ring]
    outward = [sum(column) for column in zip(*lot)]
    points = [exact(point) for point in solid[1]]
    heights = [product(outward, point) for point in points]
    level = (heights[corner] + max([height for at, height in enumerate(heights) if at != corner])) / 2
    found = {}
    for one, other in ties_of(solid):
        if corner in (one, other):
            end = other if one == corner else one
            part = (heights[corner] - level) / (heights[corner] - heights[end])
            found[end] = told([p + part * (q - p) for p, q in zip(points[corner], points[end])])
    return found


def looked_top(solid, position):
    """The point over a raised face, as [127] tells."""
    points = [exact(solid[1][corner]) for corner in solid[2][position]]
    middle = [sum(column) / len(points) for column in zip(*points)]
    outward = whole_plane(solid, position)[:3]
    parts = []
    for at in range(len(solid[2])):
        plane = whole_plane(solid, at)
        if at != position and product(plane, outward) != 0:
            part = (plane[3] - product(plane, middle)) / product(plane, outward)
            parts += [part] * (part > 0)
    part = min(parts) / 2 if parts else 1
    return told([m + part * n for m, n in zip(middle, outward)])


def determinant(rows):
    """The determinant of three rows."""
    return product(rows[0], cross(rows[1], rows[2]))


class CutOffTest(Checking):

    def test_each_corner(self):
        done = 0
        for solid in solidsamples.solids():
            web = web_of(solid)
            for corner in range(0, len(solid[1]), 1 + len(solid[1]) // 7):
                points = looked_cut(solid, corner)
                if len(solid[1]) + len(points) > 21:
                    self.refused(TooMany, CORNERS, cut_off, solid, corner)
                    continue
                other = cut_off(solid, corner)
                self.assertTrue(looks_like_solid(other))
                self.same(web_of(other), cut_corner(web, corner))
                names = dict(zip(sorted(points), [corner] + list(range(len(solid[1]), 20))))
                for end, point in points.items():
                    self.same(other[1][names[end]], point)
                for at, point in enumerate(solid[1]):
                    if at != corner:
                        self.same(other[1][at], point)
                self.assertEqual(len(other[2]), len(solid[2]) + 1)
                self.assertLess(size_of(other), size_of(solid))
                self.assertEqual([ring for ring in solid[2] if corner not in ring], [r for r in other[2] if r in solid[2]])
                done += 1
        self.assertGreater(done, 60)

    def test_known(self):
        other = cut_off(corner=3, solid=PIECE)
        self.same(other[1][:3], PIECE[1][:3])
        self.same(other[1][3:], ((O, O, (1, 2)), ((1, 2), O, (1, 2)), (O, (1, 2), (1, 2))))
        self.same(other[2], ((0, 1, 4, 3), (0, 2, 1), (0, 3, 5, 2), (1, 2, 5, 4), (3, 4, 5)))
        self.same(len(cut_off(CUBE, 7)[1]), 10)

    def test_again_and_again(self):
        solid = CUBE
        while len(solid[1]) < 19:
            solid = cut_off(solid, len(solid[1]) - 1)
            self.assertTrue(looks_like_solid(solid))
        self.same(len(solid[1]), 20)
        self.refused(TooMany, CORNERS, cut_off, solid, 3)

    def test_corners_are_looked_at(self):
        for value in [v for v in samples.junk() if v not in (0, 1, 2) or isinstance(v, bool)] + [4, 8, -1, "0", (0,), [0]]:
            self.refused(InvalidCorner, {"value": value}, cut_off, TENT, value)
            self.refused(InvalidCorner, {"value": value}, cut_off, corner=value, solid=TENT)
        full = [solid for solid in solidsamples.solids() if len(solid[1]) == 20][0]
        self.refused(InvalidCorner, {"value": 20}, cut_off, full, 20)
        self.refused(TooMany, CORNERS, cut_off, full, 19)


class RaisedTest(Checking):

    def test_each_face(self):
        tops = {True: 0, False: 0}
        for solid in solidsamples.solids():
            web, many = web_of(solid), len(solid[1])
            for position in range(0, len(solid[2]), 1 + len(solid[2]) // 7):
                face = solid[2][position]
                if many == 20:
                    self.refused(TooMany, CORNERS, raised, solid, position)
                    continue
                other = raised(solid, position)
                self.assertTrue(looks_like_solid(other))
                self.same(other[1], solid[1] + (looked_top(solid, position),))
                self.same(web_of(other), raise_face(web, face))
                rest = [ring for ring in solid[2] if ring != face]
                rest += [from_least([one, behind, many]) for one, behind in steps_of(face)]
                self.same(other[2], tuple(sorted(rest)))
                self.assertEqual(len([rise for rise in rises_of(solid, other[1][many]) if rise > 0]), 1)
                slopes = [product(whole_plane(solid, at)[:3],
                                  whole_plane(solid, position)[:3]) for at in range(len(solid[2]))]
                tops[max(slopes[:position] + slopes[position + 1:]) > 0] += 1
        self.assertGreater(min(tops.values()), 10, tops)

    def test_known(self):
        other = raised(position=1, solid=PIECE)
        self.same(other[1][4], ((1, 3), (1, 3), NEG))
        self.same(other[2], ((0, 1, 3), (0, 2, 4), (0, 3, 2), (0, 4, 1), (1, 2, 3), (1, 4, 2)))
        self.same(raised(PIECE, 3)[1][4], ((4, 3), (4, 3), (4, 3)))
        # A bowl, wider above: the planes of its sides meet near below its bottom.
        bowl = hull([told((x, y, 0)) for x in (0, 1) for y in (0, 1)] + [told((x, y, 1)) for x in (-1, 2) for y in (-1, 2)])
        bottom = [at for at, ring in enumerate(bowl[2]) if all([bowl[1][corner][2] == O for corner in ring])][0]
        self.same(raised(bowl, bottom)[1][8], ((1, 2), (1, 2), (-1, 4)))
        # On a pointed roof another plane stands in the way.
        roof = ("solid", (told((0, 0, 0)), told((6, 0, 0)), told((0, 6, 0)), told((1, 1, 3))), PIECE[2])
        self.same(raised(roof, 3), ("solid", roof[1] + (looked_top(roof, 3),), raised(PIECE, 3)[2]))

    def test_positions_are_looked_at(self):
        for value in [v for v in samples.junk() if v not in (0, 1, 2) or isinstance(v, bool)] + [4, 6, -1, "0", (0,), [0]]:
            self.refused(InvalidPosition, {"value": value}, raised, TENT, value)
            self.refused(InvalidPosition, {"value": value}, raised, position=value, solid=TENT)
        self.same(len(raised(hull(solidsamples.bowl(19, 3)), 5)[1]), 20)
        full = [solid for solid in solidsamples.solids() if len(solid[1]) == 20][0]
        self.refused(InvalidPosition, {"value": len(full[2])}, raised, full, len(full[2]))
        self.refused(TooMany, CORNERS, raised, full, len(full[2]) - 1)


class MirroredTest(Checking):

    def test_solids(self):
        for solid in solidsamples.solids():
            other = mirrored(solid)
            self.assertTrue(looks_like_solid(other))
            for point, fellow in zip(other[1], solid[1]):
                self.same(point, ((-fellow[0][0], fellow[0][1]),) + fellow[1:])
            self.same(other[2], tuple(sorted([ring[:1] + ring[:0:-1] for ring in solid[2]])))
            self.same(mirrored(solid=other), solid)
            self.same(map_of(other), mirror(map_of(solid)))
            self.same(web_of(other), web_of(solid))

    def test_known(self):
        self.same(mirrored(PIECE), ("solid", ((O, O, O), (NEG, O, O), (O, W, O), (O, O, W)),
                                    ((0, 1, 2), (0, 2, 3), (0, 3, 1), (1, 3, 2))))


class MovedTest(Checking):

    def test_solids(self):
        signs = {1: 0, -1: 0, 0: 0}
        for seed, solid in enumerate(solidsamples.solids()):
            chance = random.Random(seed)
            for _ in range(5):
                rows = [[Fraction(chance.randrange(-3, 4), chance.randrange(1, 4)) for _ in range(3)] for _ in range(3)]
                if chance.random() < 0.2:
                    rows[2] = [2 * p - q for p, q in zip(rows[0], rows[1])]
                by = [Fraction(chance.randrange(-9, 9), chance.randrange(1, 5)) for _ in range(3)]
                matrix, worth = tuple([told(row) for row in rows]), determinant(rows)
                signs[(worth > 0) - (worth < 0)] += 1
                if worth == 0:
                    self.refused(Singular, {}, moved, solid, matrix, told(by))
                    continue
                other = moved(solid, matrix, told(by))
                self.assertTrue(looks_like_solid(other))
                for point, fellow in zip(other[1], solid[1]):
                    self.same(point, told([product(row, exact(fellow)) + part for row, part in zip(rows, by)]))
                turned = tuple(sorted([ring[:1] + ring[:0:-1] for ring in solid[2]]))
                self.same(other[2], solid[2] if worth > 0 else turned)
                self.assertEqual(size_of(other), abs(worth) * size_of(solid))
                self.same(web_of(other), web_of(solid))
        self.assertGreater(min(signs.values()), 15, signs)

    def test_known(self):
        self.same(moved(PIECE, SAME, CENTRE), PIECE)
        self.same(moved(point=(W, O, O), matrix=((W, O, O), (O, W, O), (O, O, TWO)), solid=PIECE)[1][3], (W, O, TWO))
        self.same(moved(CUBE, ((NEG, O, O), (O, W, O), (O, O, W)), CENTRE), mirrored(CUBE))
        # Two directions exchanged, and all three turned about.
        self.same(moved(PIECE, (SAME[1], SAME[0], SAME[2]), CENTRE)[2], mirrored(PIECE)[2])
        self.same(moved(PIECE, (SAME[1], SAME[2], SAME[0]), CENTRE)[2], PIECE[2])
        self.assertEqual(less(exact(moved(CUBE, SAME, (W, TWO, NEG))[1][0]), exact(CUBE[1][0])), [1, 2, -1])

    def test_singular(self):
        for matrix in [(SAME[0], SAME[1], SAME[0]), (CENTRE,) * 3, (SAME[0], CENTRE, SAME[2]),
                       ((W, TWO, O), (TWO, (4, 1), O), SAME[2]), ((W, W, W), (W, O, W), (TWO, W, TWO))]:
            self.refused(Singular, {}, moved, PIECE, matrix, CENTRE)
            self.refused(Singular, {}, moved, point=CENTRE, matrix=matrix, solid=CUBE)
            self.refused(InvalidPoint, {"value": None}, moved, PIECE, matrix, None)
        tiny = ((W, O, O), (O, (1, 10 ** 59), O), (O, O, (1, 10 ** 59 - 1)))
        self.assertTrue(looks_like_solid(moved(CUBE, tiny, CENTRE)))

    def test_matrices_and_points_are_looked_at(self):
        for value in NO_MATRICES + samples.junk():
            self.refused(InvalidMatrix, {"value": value}, moved, PIECE, value, CENTRE)
            self.refused(InvalidMatrix, {"value": value}, moved, point=None, matrix=value, solid=PIECE)
        for value in NO_POINTS + samples.junk():
            self.refused(InvalidPoint, {"value": value}, moved, PIECE, SAME, value)
            self.refused(InvalidPoint, {"value": value}, moved, point=value, matrix=SAME, solid=CUBE)


class SolidsAreLookedAtTest(Checking):

    def test_solids(self):
        for value in NO_SOLIDS:
            self.refused(InvalidSolid, {"value": value}, cut_off, value, 0)
            self.refused(InvalidSolid, {"value": value}, cut_off, corner=None, solid=value)
            self.refused(InvalidSolid, {"value": value}, raised, value, 99)
            self.refused(InvalidSolid, {"value": value}, raised, position=None, solid=value)
            self.refused(InvalidSolid, {"value": value}, mirrored, value)
            self.refused(InvalidSolid, {"value": value}, mirrored, solid=value)
            self.refused(InvalidSolid, {"value": value}, moved, value, SAME, CENTRE)
            self.refused(InvalidSolid, {"value": value}, moved, point=None, matrix=None, solid=value)
