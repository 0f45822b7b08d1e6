"""Tests of websolids.lifting."""

import random
from fractions import Fraction

from tests import looks, samples, solidsamples
from tests.checking import Checking
from tests.solidlooks import exact, looks_like_solid, ties_of
from tests.solidsamples import rings_of_three, told
from tests.test_maps import BOW, TAIL, TENT, spoilt
from tests.test_middles import AT, NO_FLAT_POINTS, RING, TRIANGLE
from websolids.drawing import drawn
from websolids.errors import InvalidMap, InvalidPoint, InvalidRing, NotThreeJoined
from websolids.lifting import height_at, lifted, lifted_solid, pulls, slopes
from websolids.maps import mirror
from websolids.middles import placed
from websolids.solids import is_solid, map_of, web_of

ALL = (slopes, lifted, pulls, lifted_solid)


def cases(charts):
    """Maps of three-joined webs, each with all its rings of three corners if it has few, else some."""
    found = []
    for chart in charts:
        rings = rings_of_three(chart)
        found += [(chart, ring) for ring in (rings if chart[1][1] < 7 else rings[::7])]
    return found


def worth(plane, point):
    """How high a plane of a ring is at a flat point of Fractions."""
    g1, g2, h = plane
    return g1 * point[0] + g2 * point[1] + h


class Lifted:
    """What is told of a map and a ring, in Fractions."""

    def __init__(self, chart, ring):
        self.chart, self.ring = chart, ring
        self.faces = [face for face in looks.rings_by_steps(chart[2]) if face != ring]
        self.left = {step: at for at, face in enumerate(self.faces) for step in zip(face, face[1:] + face[:1])}
        self.points = [exact(point) for point in placed(chart, ring)]
        self.planes = [exact(plane) for plane in slopes(chart, ring)]
        self.heights = exact(lifted(chart, ring))

    def inner_steps(self):
        """The steps of ties that aren't of the outer ring, with the places of both rings."""
        return [(u, v, self.left[(u, v)], self.left[(v, u)]) for u, v in self.left if (v, u) in self.left]


class LiftingTest(Checking):

    def test_planes_go_over_from_ring_to_ring(self):
        for chart, ring in cases(solidsamples.solid_maps()):
            case = Lifted(chart, ring)
            self.assertEqual(len(case.planes), len(case.faces))
            self.assertEqual(case.planes[0], [0, 0, 0])
            self.assertEqual(len(case.inner_steps()), 2 * len(chart[1][2]) - 6)
            for u, v, one, other in case.inner_steps():
                (xu, yu), (xv, yv) = case.points[u], case.points[v]
                dx, dy = xv - xu, yv - yu
                g1, g2, h = case.planes[other]
                self.assertEqual(case.planes[one], [g1 - dy, g2 + dx, h + dy * xu - dx * yu])

    def test_heights(self):
        for chart, ring in cases(solidsamples.solid_maps()):
            case = Lifted(chart, ring)
            for face, plane in zip(case.faces, case.planes):
                for corner, point in enumerate(case.points):
                    high = worth(plane, point)
                    if corner in face:
                        self.assertEqual(high, case.heights[corner])
                    elif corner not in ring:
                        self.assertLess(high, case.heights[corner])
                    else:
                        self.assertLessEqual(high, case.heights[corner])
            self.assertEqual(max(case.heights), max([case.heights[corner] for corner in ring]))

    def test_height_at(self):
        for seed, (chart, ring) in enumerate(cases(solidsamples.solid_maps())[::3]):
            case, chance = Lifted(chart, ring), random.Random(seed)
            points = list(case.points[::2]) + [[Fraction(chance.randrange(-5, 9), 5) for _ in range(2)] for _ in range(4)]
            u, v, _, _ = case.inner_steps()[seed % len(case.inner_steps())]
            points.append([(a + 2 * b) / 3 for a, b in zip(case.points[u], case.points[v])])
            points.append([sum([case.points[c][at] for c in case.faces[0]]) / len(case.faces[0]) for at in (0, 1)])
            for point in points:
                want = max([worth(plane, point) for plane in case.planes])
                self.same((height_at(chart, ring, told(point)),), told([want]))
            for corner, point in enumerate(case.points):
                if corner < 6:
                    self.same((height_at(chart, ring, told(point)),), told([case.heights[corner]]))

    def test_pulls(self):
        for chart, ring in cases(solidsamples.solid_maps()):
            case = Lifted(chart, ring)
            found = pulls(chart, ring)
            forces = []
            for corner in ring:
                rest = [case.points[other] for other in chart[2][corner] if other not in ring]
                forces.append([sum([point[at] - case.points[corner][at] for point in rest]) for at in (0, 1)])
            self.same(found, [told(force) for force in forces])
            self.assertEqual([sum([force[at] for force in forces]) for at in (0, 1)], [0, 0])
            arms = [case.points[corner][0] * force[1] - case.points[corner][1] * force[0] for corner, force in zip(ring, forces)]
            self.assertEqual(sum(arms), 0)

    def test_solids(self):
        for chart, ring in cases(solidsamples.solid_maps()):
            solid = lifted_solid(chart, ring)
            self.yes(is_solid(solid))
            self.assertTrue(looks_like_solid(solid))
            places, heights = placed(chart, ring), lifted(chart, ring)
            self.same(solid[1], tuple([(x, y, z) for (x, y), z in zip(places, heights)]))
            turned_round = [face[:1] + face[:0:-1] for face in looks.rings_by_steps(chart[2])]
            self.same(solid[2], tuple(sorted(turned_round)))
            self.same(web_of(solid), chart[1])
            self.assertEqual(ties_of(solid), chart[1][2])
            self.same(map_of(solid), mirror(chart))

    def test_known(self):
        self.same(slopes(TENT, RING), [((0, 1), (0, 1), (0, 1)), ((-1, 3), (1, 3), (0, 1)), ((1, 3), (2, 3), (-1, 3))])
        self.same(lifted(TENT, RING), [(0, 1), (1, 3), (0, 1), (0, 1)])
        self.same(height_at(TENT, RING, ((0, 1), (1, 2))), (1, 6))
        self.same(height_at(TENT, RING, ((0, 1), (0, 1))), (0, 1))
        self.same(height_at(TENT, RING, ((-3, 1), (0, 1))), (1, 1))
        self.same(height_at(TENT, RING, ((10 ** 58, 1), (0, 1))), ((10 ** 58 - 1) // 3, 1))
        self.same(pulls(TENT, RING), [((1, 3), (1, 3)), ((1, 3), (-2, 3)), ((-2, 3), (1, 3))])
        self.same(lifted_solid(TENT, RING), ("solid", tuple([at + (z,) for at, z in zip(AT, lifted(TENT, RING))]),
                                             ((0, 1, 3), (0, 2, 1), (0, 3, 2), (1, 2, 3))))
        for call in ALL:
            self.same(call(ring=RING, chart=TENT), call(TENT, RING))
        self.same(height_at(point=AT[1], ring=RING, chart=TENT), (1, 3))

    def test_again(self):
        for chart, ring in cases(solidsamples.solid_maps()[::7]):
            for call in (slopes, lifted, pulls):
                self.new_list(call, chart, ring)
            self.same(lifted_solid(chart, ring), lifted_solid(chart, ring))


class RefusalTest(Checking):

    def test_maps_are_looked_at(self):
        for value in samples.junk() + samples.no_webs()[::4] + spoilt(TENT) + [TENT[1], [TENT]]:
            for call in ALL:
                self.refused(InvalidMap, {"value": value}, call, value, RING)
                self.refused(InvalidMap, {"value": value}, call, ring=None, chart=value)
            self.refused(InvalidMap, {"value": value}, height_at, value, RING, AT[0])
            self.refused(InvalidMap, {"value": value}, height_at, point=None, ring=None, chart=value)

    def test_rings_are_looked_at(self):
        for value in [row for row in samples.junk() if row != RING] + [
                (0, 2, 1), (1, 2, 0), (0, 1, 3), [0, 1, 2], (0, True, 2), (False, 1, 2), (0, 1), (0, 1, 2, 3), ((0, 1, 2),),
                ("0", "1", "2"), (0, 1, None), {0: 1}, RING + RING]:
            for chart in (TENT, BOW) if value not in ((0, 1, 2), (0, 2, 1)) else (TENT,):
                for call in ALL:
                    self.refused(InvalidRing, {"value": value}, call, chart, value)
                    self.refused(InvalidRing, {"value": value}, call, ring=value, chart=chart)
                self.refused(InvalidRing, {"value": value}, height_at, chart, value, AT[0])
                self.refused(InvalidRing, {"value": value}, height_at, point=None, ring=value, chart=chart)
        cube = drawn(samples.cube())
        for call in ALL:
            self.refused(InvalidRing, {"value": cube[2][0]}, call, cube, cube[2][0])

    def test_points_ahead_of_three_joined(self):
        for value in NO_FLAT_POINTS:
            for chart in (TENT, TRIANGLE, TAIL):
                self.refused(InvalidPoint, {"value": value}, height_at, chart, RING, value)
                self.refused(InvalidPoint, {"value": value}, height_at, point=value, ring=RING, chart=chart)

    def test_three_joined_ones_alone(self):
        hung = drawn(samples.hung([samples.triangulated(9, 1), samples.full_web(4)], 2))
        less = drawn(samples.web_with(6, list(solidsamples.prism(3)[2][:-1])))
        apart = ("web", 5, ((0, 1), (0, 2), (0, 3), (0, 4), (1, 2), (1, 3), (1, 4), (2, 3)))
        for chart, ring in [(TRIANGLE, RING), (TAIL, RING), (BOW, RING), (BOW, (0, 3, 4))] + [
                (chart, rings_of_three(chart)[0]) for chart in (hung, less, drawn(apart))]:
            for call in ALL:
                self.refused(NotThreeJoined, {}, call, chart, ring)
                self.refused(NotThreeJoined, {}, call, ring=ring, chart=chart)
            self.refused(NotThreeJoined, {}, height_at, chart, ring, AT[0])
