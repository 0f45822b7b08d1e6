"""Tests of websolids.middles."""

import itertools
import random
from fractions import Fraction

from tests import looks, samples, solidsamples
from tests.checking import Checking
from tests.solidlooks import exact, is_ratio
from tests.solidsamples import rings_of_three, told
from tests.test_maps import BOW, TAIL, TAIL_WITHIN, TENT, some_maps, spoilt
from websolids.drawing import drawn
from websolids.errors import InvalidFace, InvalidMap, InvalidPlaces, InvalidPoint, InvalidRing
from websolids.maps import rings_of
from websolids.middles import is_at_middles, is_placed, placed, ring_area, rings_around

AT = (((0, 1), (0, 1)), ((0, 1), (1, 1)), ((1, 1), (0, 1)), ((1, 3), (1, 3)))
RING = (0, 1, 2)
TRIANGLE = ("map", samples.full_web(3), ((1, 2), (0, 2), (0, 1)))
OUTER = [told((0, 0)), told((0, 1)), told((1, 0))]
NO_FLAT_POINTS = samples.junk() + [AT[0] + ((0, 1),), AT[0][:1], list(AT[0]), ((0, 1), [0, 1]), ((0, 2), (0, 1)), ((0, 1), (1, 0)),
                                   ((True, 1), (0, 1)), ((0, True), (0, 1)), (0, 0), ("0", "0"), ((0, 1), None)]


def cases(charts):
    """Maps, each with some of its rings of three corners."""
    return [(chart, ring) for chart in charts for ring in rings_of_three(chart)[::4]]


def flat(points):
    """Flat points in Fractions."""
    return [exact(point) for point in points]


def signed(p, q, r):
    """Above 0 if three flat points turn left."""
    return (q[0] - p[0]) * (r[1] - q[1]) - (q[1] - p[1]) * (r[0] - q[0])


def looks_placed(chart, ring, places):
    """Whether places with the right form are convex, by all threes."""
    points = flat(places)
    if [places[corner] for corner in ring] != OUTER:
        return False
    for face in looks.rings_by_steps(chart[2]):
        for p, q, r in itertools.combinations([points[corner] for corner in face], 3):
            if face != ring and signed(p, q, r) <= 0:
                return False
    return True


def looks_at_middles(chart, ring, places):
    """Whether places with the right form are at the middles."""
    points = flat(places)
    if [places[corner] for corner in ring] != OUTER:
        return False
    for corner, row in enumerate(chart[2]):
        if corner not in ring:
            if points[corner] != [sum([points[other][at] for other in row]) / len(row) for at in (0, 1)]:
                return False
    return True


def shaken(places, ring, seed):
    """Places with one inner corner moved a little, or far."""
    chance = random.Random(seed)
    inner = [corner for corner in range(len(places)) if corner not in ring]
    corner = chance.choice(inner)
    by = [Fraction(chance.randrange(-9, 10), 10 ** chance.randrange(1, 5)) for _ in range(2)]
    point = told([a + b for a, b in zip(exact(places[corner]), by)])
    return places[:corner] + (point,) + places[corner + 1:]


def area_of(face, places):
    """The area of a ring."""
    points = flat([places[corner] for corner in face])
    pairs = zip(points, points[1:] + points[:1])
    return sum([x * v - u * y for (x, y), (u, v) in pairs]) / 2


class PlacedTest(Checking):

    def test_many_maps(self):
        for chart, ring in cases(solidsamples.solid_maps()):
            places = placed(chart, ring)
            self.assertIs(type(places), tuple)
            self.assertTrue(all([is_ratio(part) for point in places for part in point]))
            self.assertTrue(looks_at_middles(chart, ring, places))
            self.assertTrue(looks_placed(chart, ring, places))
            self.yes(is_at_middles(chart, ring, places))
            self.yes(is_placed(chart, ring, places))

    def test_maps_that_two_corners_part(self):
        told_ones = []
        for chart, ring in cases(some_maps() + [TRIANGLE]):
            places = placed(chart, ring)
            self.assertTrue(looks_at_middles(chart, ring, places))
            self.yes(is_at_middles(chart, ring, places))
            told_ones.append(looks_placed(chart, ring, places))
            self.assertIs(is_placed(chart, ring, places), told_ones[-1])
        self.assertGreater(told_ones.count(True), 20)
        self.assertGreater(told_ones.count(False), 40)

    def test_known(self):
        self.same(placed(TENT, RING), AT)
        self.same(placed(ring=(1, 3, 2), chart=TENT), (((1, 3), (1, 3)), ((0, 1), (0, 1)), ((1, 1), (0, 1)), ((0, 1), (1, 1))))
        self.same(placed(TRIANGLE, RING), AT[:3])
        self.same(placed(TRIANGLE, (0, 2, 1)), (AT[0], AT[2], AT[1]))
        self.yes(is_placed(TRIANGLE, RING, AT[:3]))
        self.same(placed(TAIL, RING), AT[:3] + (AT[0],))
        self.no(is_placed(TAIL, RING, AT[:3] + (AT[0],)))
        self.same(placed(TAIL_WITHIN, (0, 2, 1)), (AT[0], AT[2], AT[1], AT[0]))
        self.same(placed(BOW, (0, 3, 4)), (AT[0], AT[0], AT[0], AT[1], AT[2]))
        self.yes(is_at_middles(BOW, (0, 3, 4), (AT[0], AT[0], AT[0], AT[1], AT[2])))

    def test_one_corner_moved(self):
        for seed, (chart, ring) in enumerate(cases(solidsamples.solid_maps())[:80] + cases(some_maps())[:40]):
            if chart[1][1] > 3:
                places = shaken(placed(chart, ring), ring, seed)
                self.assertIs(is_at_middles(chart, ring, places), looks_at_middles(chart, ring, places))
                self.assertIs(is_placed(chart, ring, places), looks_placed(chart, ring, places))

    def test_outer_corners_moved(self):
        for at in range(3):
            for point in [told((0, 2)), told((1, 1)), told((0, 0)), told((-1, 0)), told((Fraction(1, 2), 0))]:
                if point != AT[at]:
                    places = AT[:at] + (point,) + AT[at + 1:]
                    self.no(is_placed(TENT, RING, places))
                    self.no(is_at_middles(TENT, RING, places))
        self.no(is_placed(TENT, RING, (AT[1], AT[2], AT[0], AT[3])))
        self.no(is_at_middles(TENT, RING, (AT[0], AT[2], AT[1], AT[3])))

    def test_flat_corners_are_not_convex(self):
        self.yes(is_placed(TENT, RING, AT[:3] + (((1, 2), (1, 4)),)))
        for point in [((1, 2), (1, 2)), ((0, 1), (1, 2)), ((1, 2), (0, 1)), ((0, 1), (0, 1)), ((1, 1), (1, 1)), ((-1, 9), (1, 9))]:
            self.no(is_placed(TENT, RING, AT[:3] + (point,)))
        # In the ring 0, 2, 3, 4, 1 three corners that aren't neighbours must turn left, too.
        prism = drawn(solidsamples.prism(3))
        for ring in rings_of_three(prism):
            places = placed(prism, ring)
            for seed in range(60):
                moved = shaken(places, ring, seed)
                self.assertIs(is_placed(prism, ring, moved), looks_placed(prism, ring, moved))

    def test_long_numbers(self):
        x = (10 ** 58 + 7, 3 * 10 ** 58 + 1)
        self.yes(is_placed(TENT, RING, AT[:3] + ((x, x),)))
        self.no(is_at_middles(TENT, RING, AT[:3] + ((x, x),)))

    def test_any_value(self):
        for value in samples.junk() + [list(AT), AT[:3], AT + AT[3:], (AT,), dict(enumerate(AT)), AT[:3] + (list(AT[3]),)] + [
                AT[:3] + (point,) for point in NO_FLAT_POINTS] + [(point,) + AT[1:] for point in NO_FLAT_POINTS]:
            self.no(is_placed(TENT, RING, value), value)
            self.no(is_at_middles(TENT, RING, value), value)
            self.no(is_placed(value=value, ring=RING, chart=TENT), value)
            self.no(is_at_middles(value=value, ring=RING, chart=TENT), value)


class AreasTest(Checking):

    def test_sums(self):
        for seed, (chart, ring) in enumerate(cases(solidsamples.solid_maps()[::2])):
            inner = [face for face in rings_of(chart) if face != ring]
            for places in (placed(chart, ring), shaken(placed(chart, ring), ring, seed)):
                if looks_placed(chart, ring, places):
                    areas = [ring_area(chart, ring, places, face) for face in inner]
                    self.same(tuple(areas), told([area_of(face, places) for face in inner]))
                    self.assertGreater(min([number for number, _ in areas]), 0)
                    self.assertEqual(sum([Fraction(*area) for area in areas]), Fraction(1, 2))

    def test_known(self):
        self.same(ring_area(TENT, RING, AT, (0, 2, 3)), (1, 6))
        self.same(ring_area(face=(0, 3, 1), places=AT, ring=RING, chart=TENT), (1, 6))
        self.same(ring_area(TRIANGLE, RING, AT[:3], (0, 2, 1)), (1, 2))
        self.same(ring_area(TENT, RING, AT[:3] + (((1, 2), (1, 4)),), (0, 2, 3)), (1, 8))


class AroundTest(Checking):

    def looked_at(self, chart, ring, places, point):
        """By areas: a flat point lies in a convex ring if the triangles from it to the sides have no area below 0."""
        place, want = exact(point), []
        for face in looks.rings_by_steps(chart[2]):
            corners = flat([places[corner] for corner in face])
            sides = [signed(p, q, place) for p, q in zip(corners, corners[1:] + corners[:1])]
            if face != ring and min(sides) >= 0:
                want.append(face)
        self.same(rings_around(chart, ring, places, point), want)
        return want

    def test_points_of_all_kinds(self):
        for seed, (chart, ring) in enumerate(cases(solidsamples.solid_maps()[::3])):
            places, chance = placed(chart, ring), random.Random(seed)
            for corner in range(0, chart[1][1], 3):
                around = [face for face in looks.rings_by_steps(chart[2]) if face != ring and corner in face]
                self.assertEqual(self.looked_at(chart, ring, places, places[corner]), around)
            for a, b in chart[1][2][::4]:
                p, q = flat([places[a], places[b]])
                part = Fraction(chance.randrange(1, 10), 10)
                point = told([x + part * (y - x) for x, y in zip(p, q)])
                around = self.looked_at(chart, ring, places, point)
                self.assertEqual(len(around), 1 if a in ring and b in ring else 2)
            for _ in range(6):
                point = told([Fraction(chance.randrange(-3, 13), 10) for _ in range(2)])
                x, y = exact(point)
                around = self.looked_at(chart, ring, places, point)
                self.assertEqual(around != [], x >= 0 and y >= 0 and x + y <= 1)
            face = [face for face in rings_of(chart) if face != ring][-1]
            points = flat([places[corner] for corner in face])
            middle = told([sum([point[at] for point in points]) / len(points) for at in (0, 1)])
            self.assertEqual(self.looked_at(chart, ring, places, middle), [face])

    def test_known(self):
        self.same(rings_around(TENT, RING, AT, ((1, 2), (1, 8))), [(0, 2, 3)])
        self.same(rings_around(TENT, RING, AT, ((1, 6), (1, 6))), [(0, 2, 3), (0, 3, 1)])
        self.same(rings_around(TENT, RING, AT, ((1, 1), (1, 1))), [])
        self.same(rings_around(TENT, RING, AT, ((1, 3), (1, 3))), [(0, 2, 3), (0, 3, 1), (1, 3, 2)])
        self.same(rings_around(point=((0, 1), (0, 1)), places=AT, ring=RING, chart=TENT), [(0, 2, 3), (0, 3, 1)])
        self.same(rings_around(TENT, RING, AT, ((0, 1), (2, 1))), [])
        self.same(rings_around(TENT, RING, AT, ((-1, 10 ** 59), (1, 2))), [])
        self.same(rings_around(TRIANGLE, RING, AT[:3], ((1, 2), (1, 2))), [(0, 2, 1)])
        self.new_list(rings_around, TENT, RING, AT, ((1, 6), (1, 6)))


class RefusalTest(Checking):

    def calls(self):
        """Each function, with right values behind the ring."""
        return [(placed, ()), (is_at_middles, (AT,)), (is_placed, (AT,)), (ring_area, (AT, (0, 2, 3))),
                (rings_around, (AT, AT[3]))]

    def test_maps_are_looked_at(self):
        for value in samples.junk() + samples.no_webs()[::4] + spoilt(TENT) + [TENT[1], [TENT]]:
            for call, rest in self.calls():
                self.refused(InvalidMap, {"value": value}, call, value, RING, *rest)
                self.refused(InvalidMap, {"value": value}, call, value, None, *[None for _ in rest])

    def test_rings_are_looked_at(self):
        for value in samples.junk() + [(0, 2, 1), (1, 2, 0), (0, 1, 3), [0, 1, 2], (0, True, 2), (False, 1, 2), (0, 1), (0, 1, 2, 3),
                                       (0, 1, 2, 0), ((0, 1, 2),), ("0", "1", "2"), (0, 1, None), {0: 1}, RING + RING, (0, 1, 4)]:
            if type(value) is not tuple or value != RING or True in [type(part) is bool for part in value]:
                for call, rest in self.calls():
                    self.refused(InvalidRing, {"value": value}, call, TENT, value, *rest)
                    self.refused(InvalidRing, {"value": value}, call, TENT, value, *[None for _ in rest])
        cube = drawn(samples.cube())
        for chart, value in [(cube, rings_of(cube)[0]), (cube, (0, 1, 2)), (BOW, rings_of(BOW)[1]), (TAIL, (0, 2, 1)),
                             (TENT, (0, 2, 1))]:
            for call, rest in self.calls():
                self.refused(InvalidRing, {"value": value}, call, chart, value, *rest)
        self.refused(InvalidRing, {"value": 7}, placed, ring=7, chart=TENT)
        self.refused(InvalidRing, {"value": 7}, is_placed, value=None, ring=7, chart=TENT)
        self.refused(InvalidRing, {"value": 7}, is_at_middles, value=None, ring=7, chart=TENT)

    def test_places_are_looked_at(self):
        wrong = samples.junk() + [list(AT), AT[:3], AT + AT[3:], AT[:3] + (((1, 2), (1, 2)),), AT[1:] + AT[:1]]
        for value in wrong + [AT[:3] + (point,) for point in NO_FLAT_POINTS]:
            self.refused(InvalidPlaces, {"value": value}, ring_area, TENT, RING, value, (0, 2, 3))
            self.refused(InvalidPlaces, {"value": value}, rings_around, TENT, RING, value, AT[3])
            self.refused(InvalidPlaces, {"value": value}, ring_area, face=None, places=value, ring=RING, chart=TENT)
            self.refused(InvalidPlaces, {"value": value}, rings_around, point=None, places=value, ring=RING, chart=TENT)
        self.refused(InvalidPlaces, {"value": placed(TAIL, RING)}, ring_area, TAIL, RING, placed(TAIL, RING), RING)

    def test_faces_and_points_are_looked_at(self):
        for value in samples.junk() + [RING, (0, 2), (2, 3, 0), (0, 3, 2), [0, 2, 3], (False, 2, 3), (0, 2, 3, 0), ("0", 2, 3),
                                       ((0, 2, 3),), (0, 1, 3), "023", {0: 2}]:
            self.refused(InvalidFace, {"value": value}, ring_area, TENT, RING, AT, value)
            self.refused(InvalidFace, {"value": value}, ring_area, face=value, places=AT, ring=RING, chart=TENT)
        for value in NO_FLAT_POINTS:
            self.refused(InvalidPoint, {"value": value}, rings_around, TENT, RING, AT, value)
            self.refused(InvalidPoint, {"value": value}, rings_around, point=value, places=AT, ring=RING, chart=TENT)
