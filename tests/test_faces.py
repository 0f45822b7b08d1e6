"""Tests of websolids.faces."""

import itertools

from tests import looks, samples, solidsamples
from tests.checking import Checking
from tests.test_webs import NO_CORNERS
from websolids.drawing import drawn
from websolids.errors import InvalidCorner, InvalidWeb, NotDrawn, NotThreeJoined, NotTied, TooMany
from websolids.faces import faces, faces_at, faces_by_rings, is_face, the_map
from websolids.maps import is_map, mirror, rings_of

FOUR = samples.full_web(4)
SQUARE = samples.ring_web(4)
FIVE, WELLS = samples.full_web(5), samples.wells_web(3, 3)
APART = samples.apart([samples.full_web(3), samples.full_web(3)])


def plain(ring):
    """A ring from its least corner on, the lesser way round."""
    at = ring.index(min(ring))
    row = ring[at:] + ring[:at]
    return min(row, row[:1] + row[:0:-1])


def plain_rings(web):
    """All plain rings, by going along all ways."""
    ways = [way for corner in range(web[1]) for way in looks.all_ways_from(web, corner) if way[0] == min(way)]
    return [way for way in ways if len(way) > 2 and way[1] < way[-1] and looks.tied(web, way[0], way[-1])]


def looks_like_face(web, ring):
    """Whether a plain ring is a face, as [51] tells."""
    own = {frozenset(step) for step in zip(ring, ring[1:] + ring[:1])}
    across = [tie for tie in web[2] if set(tie) <= set(ring) and frozenset(tie) not in own]
    return not across and len(looks.lots_without(web, ring)) <= 1


class IsFaceTest(Checking):

    def test_all_rings_of_small_webs(self):
        webs = samples.small_webs() + samples.all_webs(5)[::7] + samples.unlike_webs(6)[::4]
        for web in webs + [APART, samples.cube(), WELLS]:
            rings = plain_rings(web)
            want = sorted([ring for ring in rings if looks_like_face(web, ring)])
            for ring in rings:
                self.assertIs(is_face(web, ring), ring in want, (web, ring))
                self.no(is_face(value=ring[:1] + ring[:0:-1], web=web))
                self.no(is_face(web, ring[1:] + ring[:1]))
                self.no(is_face(web, list(ring)))
            self.same(faces_by_rings(web), want)

    def test_all_rows(self):
        for web in [FOUR, SQUARE, solidsamples.wheel(4)]:
            want = [ring for ring in plain_rings(web) if looks_like_face(web, ring)]
            for many in range(6):
                for row in itertools.product(range(-1, web[1] + 1), repeat=many):
                    self.assertIs(is_face(web, row), row in want, row)

    def test_a_ring_round_the_middle(self):
        cube = samples.cube()
        around = plain((1, 3, 2, 6, 4, 5))
        self.assertEqual(len([tie for tie in cube[2] if set(tie) <= set(around)]), 6)
        self.assertEqual(looks.lots_without(cube, around), [(0,), (7,)])
        self.no(is_face(cube, around))
        self.yes(is_face(cube, (0, 1, 3, 2)))
        self.same(len(faces(cube)), 6)

    def test_a_ring_with_all_corners_or_all_but_one(self):
        self.yes(is_face(samples.ring_web(20), tuple(range(20))))
        self.yes(is_face(samples.full_web(3), (0, 1, 2)))
        self.yes(is_face(solidsamples.wheel(5), (0, 1, 2, 3, 4)))
        self.no(is_face(FOUR, (0, 1, 2, 3)))
        self.yes(is_face(APART, (0, 1, 2)))
        self.no(is_face(samples.apart([samples.full_web(3), ("web", 2, ())]), (0, 1, 2)))

    def test_webs_that_are_not_joined_or_not_drawn(self):
        self.yes(is_face(FIVE, (0, 1, 2)))
        self.yes(is_face(WELLS, (0, 3, 1, 4)))
        self.no(is_face(APART, (0, 1, 3)))

    def test_anything_else(self):
        for value in samples.junk() + samples.no_webs() + [[0, 1, 2], (0, True, 2), (False, 1, 2), (0, 1, 2, 0), ((0, 1, 2),)]:
            if value != (0, 1, 2):
                self.no(is_face(FOUR, value), value)
            if value != (0, 1, 2) and value != [0, 1, 2]:
                self.no(is_face(SQUARE, value), value)
        self.no(is_face(("web", 1, ()), (0,)))


class FacesTest(Checking):

    def rings_right(self, web, asked):
        chart = drawn(web)
        want = sorted([plain(ring) for ring in looks.rings_by_steps(chart[2])])
        found = faces(web)
        self.same(found, want)
        self.assertEqual(sorted([plain(ring) for ring in rings_of(mirror(chart))]), want)
        self.assertEqual(len(found), len(web[2]) - web[1] + 2)
        for ring in found:
            self.yes(is_face(web, ring))
        for one, other in web[2]:
            beside = [ring for ring in want if {one, other} in [set(step) for step in zip(ring, ring[1:] + ring[:1])]]
            self.assertEqual(len(beside), 2)
            if (one, other) in asked:
                self.same(faces_at(web, one, other), beside)
                self.same(faces_at(web, other, one), beside)
        for corner in range(web[1]):
            self.assertEqual(len([ring for ring in found if corner in ring]), len(looks.beside(web, corner)))

    def test_small_webs(self):
        webs = solidsamples.small_solid_webs()
        self.assertEqual((len([web for web in webs if web[1] == 4]), len([web for web in webs if web[1] == 6])), (1, 7))
        for web in webs:
            self.rings_right(web, web[2])
            self.same(faces_by_rings(web), faces(web))

    def test_large_webs(self):
        for web in solidsamples.solid_webs():
            self.rings_right(web, web[2][::5])
            if web[1] <= 8:
                self.same(faces_by_rings(web), faces(web))

    def test_the_map(self):
        for web in solidsamples.small_solid_webs() + solidsamples.solid_webs():
            chart = the_map(web)
            self.assertTrue(looks.looks_like_map(chart))
            self.yes(is_map(chart))
            self.same(chart[1], web)
            self.assertLess(chart[2], mirror(chart)[2])
            self.assertIn(drawn(web), [chart, mirror(chart)])

    def test_the_only_maps(self):
        for web in [FOUR, solidsamples.wheel(4), solidsamples.prism(3), solidsamples.double_wheel(3)]:
            choices = []
            for corner in range(web[1]):
                row = looks.beside(web, corner)
                choices.append([tuple(row[:1]) + rest for rest in itertools.permutations(row[1:])])
            maps = [rounds for rounds in itertools.product(*choices) if looks.looks_like_map(("map", web, rounds))]
            self.assertEqual(len(maps), 2)
            self.same(the_map(web), ("map", web, min(maps)))

    def test_known(self):
        self.same(faces(web=FOUR), [(0, 1, 2), (0, 1, 3), (0, 2, 3), (1, 2, 3)])
        self.same(faces_at(other=1, one=3, web=FOUR), [(0, 1, 3), (1, 2, 3)])
        self.same(the_map(web=FOUR)[2], ((1, 2, 3), (0, 3, 2), (0, 1, 3), (0, 2, 1)))
        self.same(faces_by_rings(web=SQUARE), [(0, 1, 2, 3)])
        self.same(faces_by_rings(APART), [(0, 1, 2), (3, 4, 5)])
        self.same(faces_by_rings(("web", 1, ())), [])
        self.same(len(faces_by_rings(FIVE)), 10)
        self.same(len(faces_by_rings(samples.full_web(8))), 56)
        self.same(len(faces_by_rings(samples.wells_web(4, 4))), 36)

    def test_again(self):
        for web in solidsamples.solid_webs()[::5]:
            self.new_list(faces, web)
            self.new_list(faces_at, web, *web[2][-1])
            self.same(the_map(web), the_map(web))
        self.new_list(faces_by_rings, FOUR)


class RefusalTest(Checking):

    def test_webs_are_looked_at(self):
        for value in samples.no_webs():
            for call in (faces, the_map, faces_by_rings):
                self.refused(InvalidWeb, {"value": value}, call, value)
                self.refused(InvalidWeb, {"value": value}, call, web=value)
            self.refused(InvalidWeb, {"value": value}, is_face, value, (0, 1, 2))
            self.refused(InvalidWeb, {"value": value}, is_face, value=None, web=value)
            self.refused(InvalidWeb, {"value": value}, faces_at, value, 0, 1)
            self.refused(InvalidWeb, {"value": value}, faces_at, other=None, one=None, web=value)

    def test_corners_are_looked_at(self):
        for value in NO_CORNERS:
            for web in (FOUR, SQUARE, ("web", 4, ())):
                self.refused(InvalidCorner, {"value": value}, faces_at, web, value, 0)
                self.refused(InvalidCorner, {"value": value}, faces_at, web, 0, value)
                self.refused(InvalidCorner, {"value": value}, faces_at, other="later", one=value, web=web)
                self.refused(InvalidCorner, {"value": value}, faces_at, other=value, one=1, web=web)

    def test_not_tied_ahead_of_the_rest(self):
        cube = samples.cube()
        for web, one, other in [(SQUARE, 0, 2), (SQUARE, 1, 1), (cube, 0, 7), (cube, 3, 3), (WELLS, 0, 1), (FIVE, 2, 2),
                                (APART, 0, 4), (("web", 1, ()), 0, 0), (("web", 2, ()), 0, 1)]:
            self.refused(NotTied, {}, faces_at, web, one, other)
            self.refused(NotTied, {}, faces_at, other=other, one=one, web=web)

    def test_three_joined_ahead_of_drawn(self):
        webs = [("web", 1, ()), ("web", 3, ()), samples.full_web(3), SQUARE, APART, samples.ring_web(20), samples.tree(9, 1)]
        webs += [samples.hung([FIVE, FOUR], 1), samples.apart([WELLS, FIVE]), samples.hung([WELLS, samples.cube()], 3)]
        for web in webs:
            for call in (faces, the_map):
                self.refused(NotThreeJoined, {}, call, web)
                self.refused(NotThreeJoined, {}, call, web=web)
            for one, other in web[2][:2]:
                self.refused(NotThreeJoined, {}, faces_at, web, one, other)
        for web in [FIVE, WELLS, samples.full_web(11), samples.wells_web(3, 17), samples.wells_web(4, 4)]:
            for call in (faces, the_map):
                self.refused(NotDrawn, {}, call, web)
                self.refused(NotDrawn, {}, call, web=web)
            self.refused(NotDrawn, {}, faces_at, web, web[2][0][1], web[2][0][0])

    def test_many_corners(self):
        for web in [samples.full_web(9), samples.ring_web(9), samples.ring_web(20), ("web", 9, ()), solidsamples.prism(10)]:
            self.refused(TooMany, {"what": "corners", "limit": 8}, faces_by_rings, web)
            self.refused(TooMany, {"what": "corners", "limit": 8}, faces_by_rings, web=web)
