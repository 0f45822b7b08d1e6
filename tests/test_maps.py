"""Tests of websolids.maps."""

import itertools
import math
import random

from tests import looks, samples
from tests.checking import Checking
from tests.test_webs import NO_CORNERS
from websolids.drawing import drawn
from websolids.errors import InvalidCorner, InvalidMap, InvalidRings, InvalidWeb
from websolids.maps import is_map, map_of_rings, mirror, ring_left_of, rings_of

FOUR = samples.full_web(4)
TENT = ("map", FOUR, ((1, 2, 3), (0, 3, 2), (0, 1, 3), (0, 2, 1)))
TIE = ("map", ("web", 2, ((0, 1),)), ((1,), (0,)))
LINE = ("map", ("web", 3, ((0, 1), (1, 2))), ((1,), (0, 2), (1,)))
STAR = ("map", ("web", 5, ((0, 1), (0, 2), (0, 3), (0, 4))), ((1, 3, 2, 4), (0,), (0,), (0,), (0,)))
# A ring of three with a tail at 0: the tail may stand within the ring or without.
TAIL_WEB = ("web", 4, ((0, 1), (0, 2), (0, 3), (1, 2)))
TAIL = ("map", TAIL_WEB, ((1, 2, 3), (0, 2), (0, 1), (0,)))
TAIL_WITHIN = ("map", TAIL_WEB, ((1, 3, 2), (0, 2), (0, 1), (0,)))
# Two rings of three that hang on one corner.
BOW = ("map", ("web", 5, ((0, 1), (0, 2), (0, 3), (0, 4), (1, 2), (3, 4))),
       ((1, 2, 3, 4), (0, 2), (0, 1), (0, 4), (0, 3)))
NO_MAP_WEBS = [("web", 1, ()), ("web", 2, ()), ("web", 3, ((0, 1),)), ("web", 4, ((0, 1), (2, 3)))]


def all_rounds(web):
    """All rows of rounds of a web, each round with all neighbours from the least on."""
    choices = []
    for corner in range(web[1]):
        row = looks.beside(web, corner)
        choices.append([tuple(row[:1]) + rest for rest in itertools.permutations(row[1:])])
    return itertools.product(*choices)


def all_maps(web):
    """All maps of a joined web with ties, by the test's own look."""
    return [chart for chart in [("map", web, rounds) for rounds in all_rounds(web)] if looks.looks_like_map(chart)]


def some_maps():
    """Maps of many makes: of trees, of blocks that hang on one corner, of webs that no two corners part."""
    webs = [web for web in samples.joined_large_webs() if drawn(web) is not None]
    return [TENT, TIE, LINE, STAR, TAIL, TAIL_WITHIN, BOW] + [drawn(web) for web in webs]


def turned_by_chance(rings, seed):
    """The rings, each written from any of its places on, in any sequence."""
    chance = random.Random(seed)
    rows = []
    for ring in rings:
        at = chance.randrange(len(ring))
        rows.append(ring[at:] + ring[:at])
    chance.shuffle(rows)
    return rows


def on_the_plane(places, ties):
    """The map of straight ties between places on the plane that do not cross, by their directions alone."""
    web = samples.web_with(len(places), ties)
    rounds = []
    for corner, (x, y) in enumerate(places):
        row = looks.beside(web, corner)
        row = sorted(row, key=lambda other: math.atan2(places[other][1] - y, places[other][0] - x))
        at = row.index(min(row))
        rounds.append(tuple(row[at:] + row[:at]))
    return ("map", web, tuple(rounds))


def area(ring, places):
    """Twice the area within a ring: above 0 if it goes round counterclockwise."""
    steps = [(places[a], places[b]) for a, b in zip(ring, ring[1:] + ring[:1])]
    return sum([x * v - u * y for (x, y), (u, v) in steps])


class IsMapTest(Checking):

    def test_all_rounds_of_small_webs(self):
        webs = [web for web in samples.small_webs() + samples.all_webs(5)[::29] if web[2] and samples.hangs_together(web)]
        webs += [samples.wells_web(3, 3), samples.wells_web(2, 3), samples.hung([samples.full_web(3)] * 2, 1)]
        for web in webs:
            for rounds in itertools.islice(all_rounds(web), 3000):
                chart = ("map", web, rounds)
                self.assertIs(is_map(chart), looks.looks_like_map(chart), chart)

    def test_how_many_maps(self):
        self.assertEqual(len([1 for rounds in all_rounds(FOUR) if is_map(("map", FOUR, rounds))]), 2)
        five = samples.full_web(5)
        less = ("web", 5, five[2][:9])
        self.assertEqual(len([1 for rounds in all_rounds(less) if is_map(("map", less, rounds))]), 2)
        wells = samples.wells_web(3, 3)
        self.assertEqual(len([1 for rounds in all_rounds(wells) if is_map(("map", wells, rounds))]), 0)

    def test_maps(self):
        for chart in some_maps():
            self.yes(is_map(chart))
            self.yes(is_map(value=chart))

    def test_webs_without_maps(self):
        for web in NO_MAP_WEBS:
            rounds = tuple([tuple(looks.beside(web, corner)) for corner in range(web[1])])
            self.no(is_map(("map", web, rounds)))
        both = ("web", 6, ((0, 1), (0, 2), (1, 2), (3, 4), (3, 5), (4, 5)))
        self.no(is_map(("map", both, tuple([tuple(looks.beside(both, corner)) for corner in range(6)]))))

    def test_crossings(self):
        self.no(is_map(("map", FOUR, ((1, 2, 3), (0, 2, 3), (0, 1, 3), (0, 2, 1)))))
        self.no(is_map(("map", TENT[1], TENT[2][:3] + ((0, 1, 2),))))

    def test_spoilt_maps(self):
        for chart in [TENT, TIE, LINE, STAR, TAIL, BOW, drawn(samples.cube()), drawn(samples.triangulated(20, 4))]:
            for value in spoilt(chart):
                self.no(is_map(value), value)

    def test_anything_else(self):
        for value in samples.junk() + samples.no_webs() + [FOUR, ("map", FOUR), [TENT], (TENT,)]:
            self.no(is_map(value), value)
        for web in samples.no_webs():
            self.no(is_map(("map", web, TENT[2])))
        for rounds in samples.junk():
            self.no(is_map(("map", FOUR, rounds)), rounds)
            self.no(is_map(("map", TIE[1], (rounds, (0,)))), rounds)


def spoilt(chart):
    """Values that are no maps, made of one that is."""
    word, web, rounds = chart
    first, last = rounds[0], rounds[-1]
    rest, ahead = rounds[1:], rounds[:-1]
    wrong = [list(chart), chart[:2], chart + ((),), (web, rounds), ("maps", web, rounds), (b"map", web, rounds),
             (None, web, rounds), (["map"], web, rounds), (word, list(web), rounds), (word, web, list(rounds)),
             (word, web, ahead), (word, web, rest), (word, web, rounds + ((),)), (word, web, rounds + (last,)),
             (word, web, (list(first),) + rest), (word, web, ahead + (list(last),)), (word, web, ((),) + rest),
             (word, web, (first + first[-1:],) + rest), (word, web, (first[:-1],) + rest), (word, web, (None,) + rest),
             (word, web, (first[:-1] + (str(first[-1]),),) + rest), (word, web, (first[:-1] + (None,),) + rest),
             (word, web, (first[:-1] + (-first[-1],),) + rest), (word, web, (first[:-1] + (web[1],),) + rest),
             (word, web, (first[:-1] + (0,),) + rest), (word, web, (first[:-1] + (first[-1:],),) + rest),
             (word, web, (first + (web[1],),) + rest), (word, web, ahead + ("0",)), (word, web, dict(enumerate(rounds)))]
    wrong += [(word, web, tuple([tuple([bool(c) if c < 2 else c for c in row]) for row in rounds]))]
    wrong += [(word, ("web", web[1], web[2][1:]), rounds), (word, ("web", web[1], ()), rounds)]
    wrong += [(word, web, rounds[:at] + (row[1:] + row[:1],) + rounds[at + 1:])
              for at, row in enumerate(rounds) if len(row) > 1]
    wrong += [(word, web, rounds[:at] + (row[:1] * 2 + row[2:],) + rounds[at + 1:])
              for at, row in enumerate(rounds) if len(row) > 1]
    return wrong


class RingsTest(Checking):

    def test_known_rings(self):
        self.same(rings_of(TENT), [(0, 1, 2), (0, 2, 3), (0, 3, 1), (1, 3, 2)])
        self.same(rings_of(chart=TIE), [(0, 1)])
        self.same(rings_of(LINE), [(0, 1, 2, 1)])
        self.same(rings_of(STAR), [(0, 1, 0, 4, 0, 2, 0, 3)])
        self.new_list(rings_of, TENT)

    def test_where_a_tail_stands(self):
        # Counterclockwise round 0 stand 1, 2, 3: so the ring 0, 1, 2 goes counterclockwise without 3 in it.
        self.same(rings_of(TAIL), [(0, 1, 2), (0, 2, 1, 0, 3)])
        self.same(rings_of(TAIL_WITHIN), [(0, 1, 2, 0, 3), (0, 2, 1)])
        self.same(rings_of(BOW), [(0, 1, 2), (0, 2, 1, 0, 4, 3), (0, 3, 4)])

    def test_many_maps(self):
        for chart in some_maps() + all_maps(samples.web_with(5, FOUR[2] + ((3, 4),))):
            web, rings = chart[1], rings_of(chart)
            self.same(rings, by_look(chart))
            self.assertEqual(rings, sorted(rings))
            self.assertEqual(web[1] - len(web[2]) + len(rings), 2)
            steps = [(a, b) for ring in rings for a, b in zip(ring, ring[1:] + ring[:1])]
            self.assertEqual(sorted(steps), sorted(list(web[2]) + [(b, a) for a, b in web[2]]))
            for ring in rings:
                self.assertEqual(ring, min([ring[at:] + ring[:at] for at in range(len(ring))]))
                for one, other in zip(ring, ring[1:] + ring[:1]):
                    self.same(ring_left_of(chart, one, other), ring)

    def test_rings_of_three_joined_webs(self):
        for seed in range(8):
            rings = rings_of(drawn(samples.triangulated(6 + seed, seed)))
            self.assertEqual({len(ring) for ring in rings}, {3})
            for one, other in itertools.combinations(rings, 2):
                self.assertLessEqual(len(set(one) & set(other)), 2)

    def test_on_the_left_of_the_steps(self):
        places = [(0, 0), (4, 0), (4, 4), (0, 4), (1, 1), (3, 1), (2, 3)]
        ties = [(0, 1), (1, 2), (2, 3), (0, 3), (4, 5), (5, 6), (4, 6), (0, 4), (1, 5), (2, 6), (3, 6)]
        self.by_places(places, ties)
        grid = [(x, y) for x in range(5) for y in range(4)]
        rows = [(a, b) for a, b in itertools.combinations(range(20), 2)
                if abs(grid[a][0] - grid[b][0]) + abs(grid[a][1] - grid[b][1]) == 1]
        self.by_places(grid, rows)
        slants = [(a, b) for a, b in itertools.combinations(range(20), 2)
                  if grid[b] == (grid[a][0] + 1, grid[a][1] + 1)]
        self.by_places(grid, rows + slants)
        self.by_places(grid, rows + slants[::2])

    def by_places(self, places, ties):
        """Rings round inner parts go counterclockwise, just the outer one goes clockwise."""
        chart = on_the_plane(places, ties)
        self.yes(is_map(chart))
        areas = [area(ring, places) for ring in rings_of(chart)]
        self.assertEqual(len([size for size in areas if size < 0]), 1)
        self.assertEqual(sum(areas), 0)
        self.assertNotIn(0, areas)
        areas = [area(ring, places) for ring in rings_of(mirror(chart))]
        self.assertEqual(len([size for size in areas if size > 0]), 1)

    def test_left_of(self):
        self.same(ring_left_of(TENT, 1, 3), (1, 3, 2))
        self.same(ring_left_of(other=1, one=3, chart=TENT), (0, 3, 1))
        self.same(ring_left_of(TIE, 1, 0), (0, 1))

    def test_mirror(self):
        self.same(mirror(TENT)[2], ((1, 3, 2), (0, 2, 3), (0, 3, 1), (0, 1, 2)))
        self.same(mirror(chart=LINE), LINE)
        for chart in some_maps():
            other = mirror(chart)
            self.assertTrue(looks.looks_like_map(other))
            self.yes(is_map(other))
            self.same(other[1], chart[1])
            self.same(mirror(other), chart)
            for row, back in zip(chart[2], other[2]):
                self.assertEqual(back, row[:1] + tuple(reversed(row[1:])))
            back = [ring[::-1] for ring in rings_of(chart)]
            self.assertEqual(rings_of(other), sorted([min([r[k:] + r[:k] for k in range(len(r))]) for r in back]))


def by_look(chart):
    """The rings by the test's own look."""
    return looks.rings_by_steps(chart[2])


class MapOfRingsTest(Checking):

    def test_from_its_rings(self):
        for seed, chart in enumerate(some_maps()):
            rings = rings_of(chart)
            self.same(map_of_rings(chart[1], rings), chart)
            self.same(map_of_rings(chart[1], tuple(rings[::-1])), chart)
            self.same(map_of_rings(rings=turned_by_chance(rings, seed), web=chart[1]), chart)

    def test_all_maps_of_small_webs(self):
        for web in [web for web in samples.small_webs() if web[2] and samples.hangs_together(web)]:
            for chart in all_maps(web):
                self.same(map_of_rings(web, turned_by_chance(rings_of(chart), 1)), chart)

    def test_all_lists_of_rings(self):
        for web in [FOUR, TAIL_WEB, LINE[1], TIE[1], samples.full_web(3)]:
            known = {tuple(rings_of(chart)): chart for chart in all_maps(web)}
            rings = sorted({ring for key in known for ring in key} | {(0, 1), (0, 1, 0, 1), (0, 0), (0, 1, 1)})
            for many in range(5):
                for value in itertools.combinations(rings, many):
                    want = known.get(tuple(sorted(value)))
                    self.assertEqual(map_of_rings(web, list(value)), want, (web, value))

    def test_rings_that_are_none(self):
        rings = rings_of(TENT)
        back = [ring[::-1] for ring in rings]
        for value in [[], rings[:3], rings[1:], rings + rings[:1], rings * 2, rings[:3] + [(0, 1, 2)], [(0, 1, 2)],
                      rings[:3] + [back[3]], back[:1] + rings[1:], back[:2] + rings[2:], rings + [(0, 1)],
                      rings[:3] + [(1, 3, 2, 1)], rings[:3] + [(1, 3, 2) * 2], [(0, 0)], [(0, 0, 0), (1, 1, 1)],
                      [(0, 1), (0, 2), (0, 3), (1, 2), (1, 3), (2, 3)], [(0, 1, 2, 3), (0, 3, 2, 1)], rings + [(0, 0)]]:
            self.assertIsNone(map_of_rings(FOUR, value), value)
        self.same(map_of_rings(FOUR, back), mirror(TENT))

    def test_rings_on_another_surface(self):
        # Four corners all tied, on a ring-shaped surface: steps come once each, but there are but two rings.
        for rounds in all_rounds(FOUR):
            rings = looks.rings_by_steps(rounds)
            want = ("map", FOUR, rounds) if len(rings) == 4 else None
            self.assertEqual(map_of_rings(FOUR, rings), want)

    def test_rings_of_another_web(self):
        self.assertIsNone(map_of_rings(samples.ring_web(4), rings_of(TENT)))
        self.assertIsNone(map_of_rings(samples.full_web(5), rings_of(TENT)))
        self.assertIsNone(map_of_rings(samples.full_web(4), [(0, 1, 2, 3), (0, 3, 2, 1)]))
        self.same(map_of_rings(samples.ring_web(4), [(0, 1, 2, 3), (0, 3, 2, 1)]),
                  ("map", samples.ring_web(4), ((1, 3), (0, 2), (1, 3), (0, 2))))
        for web in NO_MAP_WEBS:
            self.assertIsNone(map_of_rings(web, []))
            if web[1] > 1:
                self.assertIsNone(map_of_rings(web, [(0, 1)]))
        self.assertIsNone(map_of_rings(("web", 4, ((0, 1), (2, 3))), [(0, 1), (2, 3)]))
        both = ("web", 6, ((0, 1), (0, 2), (1, 2), (3, 4), (3, 5), (4, 5)))
        self.assertIsNone(map_of_rings(both, [(0, 1, 2), (0, 2, 1), (3, 4, 5), (3, 5, 4)]))

    def test_a_corner_passed_twice_the_wrong_way(self):
        # At corner 0 the steps of these rings make two rounds, not one.
        web = BOW[1]
        self.assertIsNone(map_of_rings(web, [(0, 1, 2), (0, 2, 1), (0, 3, 4), (0, 4, 3)]))
        self.same(map_of_rings(web, rings_of(BOW)), BOW)

    def test_bounds(self):
        for value in [[(0, 1)] * 120, [(0, 1) * 60], [(0, 1) * 60] * 120, ((0,) * 120,), [(0, 0)]]:
            self.assertIsNone(map_of_rings(FOUR, value))
        for value in [[(0, 1)] * 121, [(0, 1) * 60 + (0,)], ((0,) * 121,), [(0,)], [()], [(0, 1), (2,)]]:
            self.refused(InvalidRings, {"value": value}, map_of_rings, FOUR, value)


class RefusalTest(Checking):

    def test_maps_are_looked_at(self):
        wrong = samples.junk() + [FOUR, ("map", FOUR, ((1, 2, 3), (0, 2, 3), (0, 1, 3), (0, 2, 1)))]
        for value in wrong + spoilt(TENT) + spoilt(LINE):
            self.refused(InvalidMap, {"value": value}, rings_of, value)
            self.refused(InvalidMap, {"value": value}, rings_of, chart=value)
            self.refused(InvalidMap, {"value": value}, mirror, value)
            self.refused(InvalidMap, {"value": value}, mirror, chart=value)
            self.refused(InvalidMap, {"value": value}, ring_left_of, value, 0, 1)
            self.refused(InvalidMap, {"value": value}, ring_left_of, other=None, one=None, chart=value)

    def test_corners_are_looked_at(self):
        for value in NO_CORNERS:
            self.refused(InvalidCorner, {"value": value}, ring_left_of, TENT, value, 0)
            self.refused(InvalidCorner, {"value": value}, ring_left_of, TENT, 0, value)
            self.refused(InvalidCorner, {"value": value}, ring_left_of, other="later", one=value, chart=TENT)
            self.refused(InvalidCorner, {"value": value}, ring_left_of, LINE, 1, value)
        for one, other in [(0, 2), (2, 0), (0, 0), (1, 1)]:
            self.refused(InvalidCorner, {"value": other}, ring_left_of, LINE, one, other)
            self.refused(InvalidCorner, {"value": other}, ring_left_of, other=other, one=one, chart=LINE)
        self.refused(InvalidCorner, {"value": 3}, ring_left_of, LINE, 3, True)
        self.refused(InvalidCorner, {"value": True}, ring_left_of, LINE, 0, True)
        self.refused(InvalidCorner, {"value": False}, ring_left_of, LINE, 1, False)

    def test_webs_and_rings_are_looked_at(self):
        for value in samples.no_webs():
            self.refused(InvalidWeb, {"value": value}, map_of_rings, value, [])
            self.refused(InvalidWeb, {"value": value}, map_of_rings, rings="later", web=value)
        for ring in [[0, 1, 2], (0, 1, 4), (-1, 0), (0,), (), (True, 2), (2, False), ("0", 1), (None, 1), None, 0, "01",
                     {0: 1}, ((0, 1),), (0, (1,)), (0, [1])]:
            for value in ([ring], (ring,), [(0, 1), ring], [ring, (0, 1)]):
                self.refused(InvalidRings, {"value": value}, map_of_rings, FOUR, value)
                self.refused(InvalidRings, {"value": value}, map_of_rings, rings=value, web=FOUR)
        for value in [None, True, 0, "", "01", b"", {}, {(0, 1): 1}, set(), {(0, 1)}, object()]:
            self.refused(InvalidRings, {"value": value}, map_of_rings, FOUR, value)
