"""Tests of websolids.polar."""

import random
from fractions import Fraction

from tests import looks, samples, solidsamples
from tests.checking import Checking
from tests.solidlooks import cross, exact, less, looks_like_solid, plane_of, product, rises_of, ties_of
from tests.solidsamples import told
from tests.test_solids import CUBE, NO_SOLIDS, TENT
from tests.test_space import NO_POINTS
from websolids.errors import InvalidCorner, InvalidPoint, InvalidSolid, NotInside, TooMany
from websolids.hulls import hull
from websolids.maps import mirror
from websolids.polar import faces_round, polar, polar_names
from websolids.solids import inside, is_solid, map_of
from websolids.turned import turned

N, E, O, M = (-1, 1), (1, 1), (0, 1), (3, 1)
FOUR = ("solid", ((N, N, N), (M, N, N), (N, M, N), (N, N, M)), ((0, 1, 3), (0, 2, 1), (0, 3, 2), (1, 2, 3)))
CENTRE = (O, O, O)


def looked_round(solid, corner):
    """The positions of the faces round a corner, step by step, as [101] tells."""
    lot = [at for at, ring in enumerate(solid[2]) if corner in ring]
    ahead = {solid[2][at][solid[2][at].index(corner) - 1]: at for at in lot}
    behind = {(ring + ring[:1])[ring.index(corner) + 1]: at for at, ring in enumerate(solid[2]) if at in lot}
    row = [min(lot)]
    while len(row) < len(lot):
        other = [c for c in ahead if ahead[c] == row[-1]][0]
        row.append(behind[other])
    return tuple(row)


def points_within(solid, seed):
    """Some points strictly inside a solid."""
    chance, corners = random.Random(seed), [exact(corner) for corner in solid[1]]
    points = [inside(solid)]
    for _ in range(2):
        weights = [Fraction(chance.randrange(1, 9)) for _ in corners]
        points.append(told([sum([w * c[at] for w, c in zip(weights, corners)]) / sum(weights) for at in range(3)]))
    return points


def few_faces(solids):
    """The solids that have at most 20 faces."""
    return [solid for solid in solids if len(solid[2]) <= 20]


class PolarTest(Checking):

    def test_faces_round(self):
        for solid in solidsamples.solids():
            rows = [looked_round(solid, corner) for corner in range(len(solid[1]))]
            for corner, row in enumerate(rows):
                self.same(faces_round(solid, corner), row)
                self.assertEqual(sorted(row), [at for at, ring in enumerate(solid[2]) if corner in ring])
            self.same(polar_names(solid), sorted(range(len(rows)), key=lambda corner: rows[corner]))

    def test_counterclockwise_from_outside(self):
        # Turned counterclockwise about their tie, seen along it from outside, one face's outward comes to the next one's.
        for solid in solidsamples.solids():
            for corner, point in enumerate(solid[1]):
                row = faces_round(solid, corner)
                for one, other in zip(row, row[1:] + row[:1]):
                    ring = solid[2][one]
                    tie = less(exact(solid[1][ring[ring.index(corner) - 1]]), exact(point))
                    outwards = [plane_of(solid, position)[0] for position in (one, other)]
                    self.assertEqual([product(outward, tie) for outward in outwards], [0, 0])
                    self.assertLess(product(cross(*outwards), tie), 0)

    def test_polar(self):
        for seed, solid in enumerate(few_faces(solidsamples.solids())):
            for point in points_within(solid, seed):
                other = polar(solid, point)
                self.yes(is_solid(other))
                self.assertTrue(looks_like_solid(other))
                for position, corner in enumerate(other[1]):
                    outward, level = plane_of(solid, position)
                    level -= product(outward, exact(point))
                    self.same(corner, told([part / level for part in outward]))
                rows = [looked_round(solid, corner) for corner in range(len(solid[1]))]
                self.same(other[2], tuple(sorted(rows)))
                self.assertLess(max(rises_of(other, CENTRE)), 0)
                self.same(map_of(other), turned(map_of(solid)))

    def test_there_and_back(self):
        for seed, solid in enumerate(few_faces(solidsamples.solids())):
            names = polar_names(solid)
            self.assertEqual(sorted(names), list(range(len(solid[1]))))
            for point in points_within(solid, seed)[:2]:
                back = polar(polar(solid, point), CENTRE)
                self.assertTrue(looks_like_solid(back))
                for k, name in enumerate(names):
                    self.same(back[1][k], told(less(exact(solid[1][name]), exact(point))))
                ties = {(min(names[a], names[b]), max(names[a], names[b])) for a, b in ties_of(back)}
                self.assertEqual(tuple(sorted(ties)), ties_of(solid))

    def test_each_corner_belongs_to_a_plane(self):
        other = polar(CUBE, inside(CUBE))
        for at, name in enumerate(polar_names(CUBE)):
            outward, level = plane_of(other, at)
            self.assertEqual([part / level for part in outward], less(exact(CUBE[1][name]), exact(inside(CUBE))))

    def test_known(self):
        self.same([faces_round(FOUR, 0), faces_round(FOUR, 3), polar_names(FOUR)], [(0, 2, 1), (0, 3, 2), [1, 0, 3, 2]])
        want = ("solid", ((O, N, O), (O, O, N), (N, O, O), (E, E, E)), ((0, 1, 3), (0, 2, 1), (0, 3, 2), (1, 2, 3)))
        self.same(polar(FOUR, CENTRE), want)
        self.same(polar(point=CENTRE, solid=FOUR), want)
        self.same(faces_round(corner=3, solid=FOUR), (0, 3, 2))
        self.same(polar_names(solid=FOUR), [1, 0, 3, 2])
        self.same(len(polar(CUBE, inside(CUBE))[1]), 6)
        self.new_list(polar_names, FOUR)

    def test_names_do_not_hang_on_the_point(self):
        solid = solidsamples.solids()[3]
        self.same({polar(solid, point)[2] for point in points_within(solid, 9)}, {polar(solid, inside(solid))[2]})

    def test_long_numbers(self):
        near = (told([Fraction(1, 10 ** 58 + 1), Fraction(1, 10 ** 58 + 3), Fraction(1, 10 ** 58 + 7)]))
        other = polar(CUBE, near)
        self.assertTrue(looks_like_solid(other))
        back = polar(other, CENTRE)
        for k, name in enumerate(polar_names(CUBE)):
            self.same(back[1][k], told(less(exact(CUBE[1][name]), exact(near))))

    def test_20_faces_and_more(self):
        twelve = hull(solidsamples.bowl(12, 4, 10 ** 20))
        self.same(len(twelve[2]), 20)
        self.same(len(polar(twelve, inside(twelve))[1]), 20)
        more = [solid for solid in solidsamples.solids() if len(solid[2]) > 20] + [hull(solidsamples.bowl(13, 4, 10 ** 20))]
        for solid in more:
            self.refused(TooMany, {"what": "corners", "limit": 20}, polar, solid, inside(solid))
            self.refused(TooMany, {"what": "corners", "limit": 20}, polar, point=inside(solid), solid=solid)
            self.refused(NotInside, {}, polar, solid, solid[1][0])
            self.assertEqual(sorted(polar_names(solid)), list(range(len(solid[1]))))
            self.same(faces_round(solid, 1), looked_round(solid, 1))


class RefusalTest(Checking):

    def test_points_not_inside(self):
        half = told((Fraction(1, 2),) * 3)
        for point in list(CUBE[1]) + [told((2, 0, 0)), told((0, 0, Fraction(1, 2))), told((Fraction(1, 2), Fraction(1, 2), 1)),
                                      told((Fraction(1, 2), Fraction(1, 2), -1)), told((-5, -5, -5))]:
            self.refused(NotInside, {}, polar, CUBE, point)
            self.refused(NotInside, {}, polar, point=point, solid=CUBE)
        self.same(polar(CUBE, half), polar(CUBE, inside(CUBE)))

    def test_solids_are_looked_at(self):
        for value in NO_SOLIDS:
            self.refused(InvalidSolid, {"value": value}, faces_round, value, 0)
            self.refused(InvalidSolid, {"value": value}, faces_round, corner=None, solid=value)
            self.refused(InvalidSolid, {"value": value}, polar_names, value)
            self.refused(InvalidSolid, {"value": value}, polar_names, solid=value)
            self.refused(InvalidSolid, {"value": value}, polar, value, CENTRE)
            self.refused(InvalidSolid, {"value": value}, polar, point=None, solid=value)

    def test_corners_and_points_are_looked_at(self):
        for value in [value for value in samples.junk() if value not in (0, 1, 2) or isinstance(value, bool)] + [4, -1, "0", (0,)]:
            self.refused(InvalidCorner, {"value": value}, faces_round, TENT, value)
            self.refused(InvalidCorner, {"value": value}, faces_round, corner=value, solid=TENT)
        self.refused(InvalidCorner, {"value": 8}, faces_round, CUBE, 8)
        for value in NO_POINTS + samples.junk():
            self.refused(InvalidPoint, {"value": value}, polar, TENT, value)
            self.refused(InvalidPoint, {"value": value}, polar, point=value, solid=CUBE)


class TurnedTest(Checking):

    def test_the_mirrored_solid(self):
        # Mirrored about a plane, the polar solid goes along.
        for solid in few_faces(solidsamples.solids())[::3]:
            corners = tuple([((-x[0], x[1]), y, z) for x, y, z in solid[1]])
            faces = tuple(sorted([ring[:1] + ring[:0:-1] for ring in solid[2]]))
            other = ("solid", corners, faces)
            point = inside(solid)
            told_one = polar(other, ((-point[0][0], point[0][1]),) + point[1:])
            self.assertEqual({((-x[0], x[1]), y, z) for x, y, z in told_one[1]}, set(polar(solid, point)[1]))
            self.same(map_of(other), mirror(map_of(solid)))
            self.assertTrue(looks.looks_like_map(map_of(other)))
