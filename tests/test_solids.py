"""Tests of websolids.solids."""

import itertools
import random
from fractions import Fraction
from math import gcd

from tests import looks, samples, solidsamples
from tests.checking import Checking
from tests.solidlooks import exact, from_least, looks_like_solid, plane_of, product, rises_of, spoilt, ties_of
from tests.solidsamples import told
from tests.test_space import NO_POINTS
from websolids.errors import InvalidPoint, InvalidSolid
from websolids.hulls import hull
from websolids.maps import is_map
from websolids.solids import faces_of, inside, is_solid, map_of, planes, web_of, where

O, E, HALF = (0, 1), (1, 1), (1, 2)
TENT = ("solid", ((O, O, O), (O, O, E), (O, E, O), (E, O, O)), ((0, 1, 2), (0, 2, 3), (0, 3, 1), (1, 3, 2)))
CUBE = solidsamples.box(1, 1, 1)
NO_SOLIDS = samples.junk() + spoilt(TENT) + spoilt(CUBE)[::3] + [TENT[1], [TENT], (TENT,), ("solid", ()), TENT[1:]]


class IsSolidTest(Checking):

    def test_solids(self):
        for solid in solidsamples.solids():
            self.assertTrue(looks_like_solid(solid))
            self.yes(is_solid(solid))
            self.yes(is_solid(value=solid))

    def test_spoilt_ones(self):
        for solid in solidsamples.solids():
            for value in spoilt(solid):
                self.assertIs(is_solid(value), looks_like_solid(value), value)
        for solid in (TENT, CUBE, solidsamples.solids()[4]):
            self.assertEqual([value for value in spoilt(solid) if is_solid(value)], [])

    def test_faces_of_another_sequence(self):
        for faces in itertools.permutations(TENT[2]):
            self.assertIs(is_solid(("solid", TENT[1], faces)), list(faces) == sorted(faces))
        for corners in itertools.permutations(TENT[1]):
            value = ("solid", corners, TENT[2])
            self.assertIs(is_solid(value), looks_like_solid(value))

    def test_each_face_turned_left_out_or_told_twice(self):
        for solid in solidsamples.solids()[::2]:
            word, corners, faces = solid
            for at, ring in enumerate(faces):
                rest = faces[:at] + faces[at + 1:]
                self.no(is_solid((word, corners, rest)))
                self.no(is_solid((word, corners, tuple(sorted(rest + (ring, ring))))))
                self.no(is_solid((word, corners, tuple(sorted(rest + (ring[:1] + ring[:0:-1],))))))
                self.no(is_solid((word, corners, tuple(sorted(rest + (ring[1:] + ring[:1],))))))
                self.no(is_solid((word, corners, tuple(sorted(rest + (ring[:-1],))))))

    def test_corners_moved(self):
        for seed, solid in enumerate(solidsamples.solids()):
            chance = random.Random(seed)
            word, corners, faces = solid
            for _ in range(8):
                at = chance.randrange(len(corners))
                by = [Fraction(chance.randrange(-3, 4), 10 ** chance.randrange(0, 9)) for _ in range(3)]
                point = told([a + b for a, b in zip(exact(corners[at]), by)])
                value = (word, corners[:at] + (point,) + corners[at + 1:], faces)
                self.assertIs(is_solid(value), looks_like_solid(value))

    def test_a_corner_in_the_plane_of_a_face(self):
        roof = hull([told(point) for point in [(0, 0, 0), (2, 0, 0), (0, 2, 0), (2, 2, 0), (1, 1, 2)]])
        self.yes(is_solid(roof))
        # The top in the plane of the square, then at a corner of it, then below it.
        top = [at for at, point in enumerate(roof[1]) if point[2] != O][0]
        for point in [(1, 1, 0), (0, 0, 0), (3, 3, 0), (1, 1, -2), (5, 5, 0)]:
            self.no(is_solid(("solid", roof[1][:top] + (told(point),) + roof[1][top + 1:], roof[2])))
        self.yes(is_solid(("solid", roof[1][:top] + (told((1, 7, Fraction(1, 10 ** 50))),) + roof[1][top + 1:], roof[2])))

    def test_a_flat_face_told_in_two(self):
        for at, ring in enumerate(CUBE[2]):
            rest = CUBE[2][:at] + CUBE[2][at + 1:]
            for parts in [(ring[:3], ring[:1] + ring[2:]), (from_least(ring[1:]), from_least(ring[:2] + ring[3:]))]:
                self.no(is_solid(("solid", CUBE[1], tuple(sorted(rest + parts)))))

    def test_a_corner_on_a_tie_or_within(self):
        faces = ((0, 1, 4), (0, 2, 1), (0, 4, 2), (1, 2, 3), (1, 3, 4), (2, 4, 3))
        corners = [told((0, 0, 0)), told((2, 0, 0)), told((0, 2, 0)), told((1, 1, 0)), told((0, 0, 2))]
        self.no(is_solid(("solid", tuple(corners), faces)))
        self.no(looks_like_solid(("solid", tuple(corners), faces)))
        for z in (0, 1, Fraction(1, 9)):
            corners[3] = told((Fraction(3, 2), Fraction(3, 2), z))
            value = ("solid", tuple(corners), faces)
            self.assertIs(is_solid(value), looks_like_solid(value))
        self.no(is_solid(("solid", TENT[1] + (told((Fraction(1, 9),) * 3),), TENT[2])))

    def test_a_corner_within_a_tie_of_two_faces(self):
        for solid in (TENT, CUBE, solidsamples.solids()[4]):
            word, corners, faces = solid
            for u, v in ties_of(solid)[::5]:
                middle = told([(a + b) / 2 for a, b in zip(exact(corners[u]), exact(corners[v]))])
                rows = []
                for ring in faces:
                    row = [[corner, len(corners)] if {corner, behind} == {u, v} else [corner]
                           for corner, behind in zip(ring, ring[1:] + ring[:1])]
                    rows.append(from_least([corner for part in row for corner in part]))
                value = (word, corners + (middle,), tuple(sorted(rows)))
                self.assertFalse(looks_like_solid(value))
                self.no(is_solid(value))

    def test_two_solids_told_as_one(self):
        other = tuple([(x, y, (z[0] + 9 * z[1], z[1])) for x, y, z in TENT[1]])
        faces = TENT[2] + tuple([tuple([corner + 4 for corner in ring]) for ring in TENT[2]])
        self.no(is_solid(("solid", TENT[1] + other, faces)))

    def test_a_star_that_goes_round_twice(self):
        points = [(0, 3), (-3, 1), (-2, -3), (2, -3), (3, 1)]
        corners = tuple([told((x, y, 0)) for x, y in points] + [told((0, 0, 3))])
        base = (0, 4, 3, 2, 1)
        sides = tuple(sorted([from_least((k, (k + 1) % 5, 5)) for k in range(5)]))
        self.yes(is_solid(("solid", corners, tuple(sorted(sides + (base,))))))
        star = (0, 3, 1, 4, 2)
        sides = tuple(sorted([from_least((b, a, 5)) for a, b in zip(star, star[1:] + star[:1])]))
        self.no(is_solid(("solid", corners, tuple(sorted(sides + (star,))))))

    def test_bounds(self):
        self.yes(is_solid(hull(solidsamples.bowl(20, 8))))
        for many in (19, 20):
            base = [told((k, k * k, 0)) for k in range(many)]
            sides = [from_least((k, (k + 1) % many, many)) for k in range(many)]
            faces = tuple(sorted(sides + [(0,) + tuple(range(many - 1, 0, -1))]))
            value = ("solid", tuple(base + [told((3, 12, 4))]), faces)
            self.assertIs(is_solid(value), many == 19)
        many = solidsamples.bowl(21, 8)
        self.no(is_solid(("solid", tuple(many), ((0, 1, 2), (0, 2, 3), (0, 3, 1), (1, 3, 2)))))
        self.no(is_solid(("solid", TENT[1][:3], ((0, 1, 2), (0, 2, 1)))))
        self.no(is_solid(("solid", TENT[1], TENT[2][:2])))

    def test_long_numbers(self):
        long = (10 ** 59 + 1, 10 ** 59 + 3)
        corners = tuple([tuple([long if part == E else part for part in corner]) for corner in TENT[1]])
        self.yes(is_solid(("solid", corners, TENT[2])))
        self.same(len(planes(("solid", corners, TENT[2]))), 4)

    def test_any_value(self):
        for value in NO_SOLIDS + samples.no_webs():
            self.no(is_solid(value), value)
        for value in samples.junk():
            self.no(is_solid(("solid", value, TENT[2])), value)
            self.no(is_solid(("solid", TENT[1], value)), value)
            self.no(is_solid(("solid", TENT[1], TENT[2][:3] + (value,))), value)
            self.no(is_solid(("solid", (value,) + TENT[1][1:], TENT[2])), value)
        for point in NO_POINTS:
            self.no(is_solid(("solid", (point,) + TENT[1][1:], TENT[2])), point)


class ToldTest(Checking):

    def test_planes(self):
        for solid in solidsamples.solids():
            found = planes(solid)
            self.assertEqual(len(found), len(solid[2]))
            for position, plane in enumerate(found):
                a, b, c, d = plane
                self.assertEqual((gcd(*plane), [type(part) for part in plane]), (1, [int] * 4))
                outward, level = plane_of(solid, position)
                part = max([Fraction(one, other) for one, other in zip(plane, outward) if other])
                self.assertGreater(part, 0)
                self.assertEqual([part * one for one in outward] + [part * level], [a, b, c, d])
                for corner, point in enumerate(solid[1]):
                    rise = product((a, b, c), exact(point)) - d
                    self.assertIs(rise == 0, corner in solid[2][position])
                    self.assertLessEqual(rise, 0)

    def test_webs_and_maps(self):
        for solid in solidsamples.solids():
            web, chart = web_of(solid), map_of(solid)
            self.same(web, ("web", len(solid[1]), ties_of(solid)))
            self.yes(is_map(chart))
            self.assertTrue(looks.looks_like_map(chart))
            self.same(chart[1], web)
            self.assertEqual(looks.rings_by_steps(chart[2]), list(solid[2]))
            self.assertIsNone(looks.fewest_in_cut(web))

    def test_inside(self):
        for solid in solidsamples.solids():
            point = inside(solid)
            many = len(solid[1])
            self.same(point, told([sum([Fraction(*corner[at]) for corner in solid[1]]) / many for at in range(3)]))
            self.same(where(solid, point), "in")
            self.same(faces_of(solid, point), [])

    def test_where(self):
        for seed, solid in enumerate(solidsamples.solids()):
            for point in self.points_of(solid, seed):
                rises = rises_of(solid, point)
                want = "out" if max(rises) > 0 else "on" if max(rises) == 0 else "in"
                self.same(where(solid, point), want)
                on_faces = [] if want == "out" else [at for at, rise in enumerate(rises) if rise == 0]
                self.same(faces_of(solid, point), on_faces)

    def points_of(self, solid, seed):
        """Points of all kinds: corners, on ties, on faces, beyond, within."""
        chance = random.Random(seed)
        corners = [exact(corner) for corner in solid[1]]
        middle = exact(inside(solid))
        points = corners[:5] + [[2 * a - b for a, b in zip(corner, middle)] for corner in corners[:3]]
        for ring in solid[2][:6]:
            row = [corners[corner] for corner in ring]
            points.append([sum([point[at] for point in row]) / len(row) for at in range(3)])
            points.append([(a + 3 * b) / 4 for a, b in zip(row[0], row[1])])
            points.append([2 * a - b for a, b in zip(row[0], row[1])])
            points.append([a + (b - a) * Fraction(chance.randrange(0, 20), 10) for a, b in zip(middle, row[0])])
        return [told(point) for point in points]

    def test_corners_are_on_their_faces(self):
        for solid in solidsamples.solids():
            for corner, point in enumerate(solid[1]):
                self.same(where(solid, point), "on")
                self.same(faces_of(solid, point), [at for at, ring in enumerate(solid[2]) if corner in ring])

    def test_known(self):
        self.same(planes(TENT), [(-1, 0, 0, 0), (0, 0, -1, 0), (0, -1, 0, 0), (1, 1, 1, 1)])
        self.same(web_of(solid=TENT)[2], ((0, 1), (0, 2), (0, 3), (1, 2), (1, 3), (2, 3)))
        self.same(map_of(solid=TENT)[2], ((1, 2, 3), (0, 3, 2), (0, 1, 3), (0, 2, 1)))
        self.same(inside(solid=TENT), ((1, 4), (1, 4), (1, 4)))
        self.same(where(TENT, (HALF, HALF, HALF)), "out")
        self.same(where(point=(HALF, O, HALF), solid=TENT), "on")
        self.same(faces_of(TENT, (HALF, O, HALF)), [2, 3])
        self.same(faces_of(point=(O, O, E), solid=TENT), [0, 2, 3])
        # On the plane of a face, but out of the solid.
        self.same(where(TENT, ((2, 1), O, O)), "out")
        self.same(faces_of(TENT, ((2, 1), O, O)), [])
        self.new_list(planes, TENT)
        self.new_list(faces_of, TENT, (O, O, E))

    def test_solids_are_looked_at(self):
        for value in NO_SOLIDS:
            for call in (planes, web_of, map_of, inside):
                self.refused(InvalidSolid, {"value": value}, call, value)
                self.refused(InvalidSolid, {"value": value}, call, solid=value)
            for call in (where, faces_of):
                self.refused(InvalidSolid, {"value": value}, call, value, (O, O, O))
                self.refused(InvalidSolid, {"value": value}, call, point=None, solid=value)

    def test_points_are_looked_at(self):
        for value in NO_POINTS + samples.junk():
            for call in (where, faces_of):
                self.refused(InvalidPoint, {"value": value}, call, TENT, value)
                self.refused(InvalidPoint, {"value": value}, call, point=value, solid=CUBE)
