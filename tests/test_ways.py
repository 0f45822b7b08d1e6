"""Tests of websolids.ways."""

import itertools

from tests import looks, samples
from tests.checking import Checking
from tests.test_webs import NO_CORNERS
from websolids.errors import InvalidCorner, InvalidCorners, InvalidRing, InvalidWeb
from websolids.ways import has_chord, is_plain_ring, is_ring, is_way, plain_ring, shortest_way

SQUARE = ("web", 4, ((0, 1), (0, 3), (1, 2), (2, 3)))
CROSSED = ("web", 4, ((0, 1), (0, 2), (0, 3), (1, 2), (2, 3)))
NO_ROWS = [
    None, True, 0, 1, "", "012", b"", {}, set(), [], (), [0], [0, 1], [0, 1, 2, 3], (0, 4), (-1, 0), (0, 0), (0, 1, 0),
    (False, 1), (0, True), (0, 1, True, 2), ("0", 1), (None,), ((0, 1),), ((0,), (1,)), (0, [1]), ([0], 1), (True,),
    (False,), ("0",), (4,), (-1,), (0, 1, 2, 3, 0), (0, 1, 2, 3, 4), (10 ** 50,), {0: 1, 1: 2},
]


def all_rows(many, longest):
    """All tuples of corners, also of some that are none and of some that are told twice."""
    for length in range(longest + 1):
        yield from itertools.product(range(-1, many + 1), repeat=length)


def looks_like_round(web, value):
    """Whether it is a ring, written from any of its corners on."""
    return looks.looks_like_way(web, value) and len(value) >= 3 and looks.tied(web, value[0], value[-1])


def rounds_of(web):
    """All rings, written from any of their corners on, either way round."""
    found = []
    for corner in range(web[1]):
        found += [way for way in looks.all_ways_from(web, corner) if looks_like_round(web, way)]
    return found


def turnings(ring):
    """The ring from each of its corners on, either way round."""
    rows = [ring[at:] + ring[:at] for at in range(len(ring))]
    return rows + [row[::-1] for row in rows]


class KindsTest(Checking):

    def test_all_short_rows(self):
        for web in samples.all_webs(3) + [SQUARE, CROSSED, samples.full_web(4), ("web", 1, ()), ("web", 4, ((1, 2),))]:
            for value in all_rows(web[1], 4):
                ring = looks_like_round(web, value) and value[0] == min(value)
                self.assertIs(is_way(web, value), looks.looks_like_way(web, value), value)
                self.assertIs(is_ring(web, value), ring, value)
                self.assertIs(is_plain_ring(web, value), ring and value[1] < value[-1], value)

    def test_long_ways(self):
        web = samples.ring_web(20)
        around = tuple(range(20))
        self.yes(is_way(web, around))
        self.yes(is_ring(value=around, web=web))
        self.yes(is_plain_ring(value=around, web=web))
        back = (0,) + around[:0:-1]
        self.yes(is_ring(web, back))
        self.no(is_plain_ring(web, back))
        self.no(is_ring(web, around[1:] + (0,)))
        self.yes(is_way(value=around[5:] + around[:5], web=web))
        self.no(is_ring(web, around[:19]))
        self.no(is_way(web, around + (0,)))

    def test_anything_else(self):
        for web in (SQUARE, samples.full_web(5)):
            for value in [value for value in NO_ROWS + samples.junk() if not looks.looks_like_way(web, value)]:
                self.no(is_way(web, value), value)
                self.no(is_ring(web, value), value)
                self.no(is_plain_ring(web, value), value)

    def test_lists_are_none(self):
        self.no(is_way(SQUARE, [0, 1, 2]))
        self.no(is_ring(SQUARE, [0, 1, 2, 3]))
        self.no(is_plain_ring(SQUARE, [0, 1, 2, 3]))
        self.no(is_ring(SQUARE, (0, True, 2, 3)))
        self.no(is_plain_ring(SQUARE, (False, 1, 2, 3)))

    def test_webs_are_looked_at(self):
        for value in samples.no_webs():
            for call in (is_way, is_ring, is_plain_ring, plain_ring, has_chord):
                self.refused(InvalidWeb, {"value": value}, call, value, (0, 1, 2))
                self.refused(InvalidWeb, {"value": value}, call, value, None)
            self.refused(InvalidWeb, {"value": value}, shortest_way, value, 0, 1, [])
            self.refused(InvalidWeb, {"value": value}, shortest_way, barred=None, other=None, one=None, web=value)


class ShortestWayTest(Checking):

    def test_small_webs(self):
        for web in samples.small_webs() + samples.all_webs(5)[::9]:
            ways = {corner: looks.all_ways_from(web, corner) for corner in range(web[1])}
            for many in range(web[1] + 1):
                for barred in itertools.combinations(range(web[1]), many):
                    self.looked_at(web, ways, barred)

    def looked_at(self, web, ways, barred):
        for one, other in itertools.product(range(web[1]), repeat=2):
            free = [way for way in ways[one] if way[-1] == other and not set(way) & set(barred)]
            want = min(free, key=lambda way: (len(way), way)) if free else None
            self.same(shortest_way(web, one, other, list(barred)), want)

    def test_least_of_the_shortest(self):
        web = samples.web_with(7, [(0, 5), (5, 1), (0, 4), (4, 1), (0, 2), (2, 3), (3, 1), (6, 1), (0, 6)])
        self.same(shortest_way(web, 0, 1, []), (0, 4, 1))
        self.same(shortest_way(web, 1, 0, ()), (1, 4, 0))
        self.same(shortest_way(web, 0, 1, (4,)), (0, 5, 1))
        self.same(shortest_way(web, 0, 1, [5, 4, 6]), (0, 2, 3, 1))
        self.same(shortest_way(barred=[2, 4, 5, 6], other=1, one=0, web=web), None)

    def test_large_webs(self):
        for web in samples.large_webs()[::8]:
            for one, other in [(0, web[1] - 1), (web[1] - 1, 1 % web[1])]:
                way = shortest_way(web, one, other, [])
                if way is None:
                    self.assertFalse(any([one in lot and other in lot for lot in looks.lots_without(web, ())]))
                else:
                    self.assertTrue(looks.looks_like_way(web, way) and (way[0], way[-1]) == (one, other))

    def test_to_itself(self):
        for corner in range(4):
            self.same(shortest_way(SQUARE, corner, corner, []), (corner,))
            self.assertIsNone(shortest_way(SQUARE, corner, corner, [corner]))
            self.same(shortest_way(SQUARE, corner, corner, [(corner + 1) % 4]), (corner,))

    def test_ends_that_are_barred(self):
        for barred in ([1], [3], (1, 3), [0, 1, 2, 3]):
            self.assertIsNone(shortest_way(SQUARE, 1, 3, barred))

    def test_refuses(self):
        for value in NO_CORNERS:
            self.refused(InvalidCorner, {"value": value}, shortest_way, SQUARE, value, 0, [])
            self.refused(InvalidCorner, {"value": value}, shortest_way, SQUARE, 0, value, [])
            self.refused(InvalidCorner, {"value": value}, shortest_way, barred="x", other="x", one=value, web=SQUARE)
            self.refused(InvalidCorner, {"value": value}, shortest_way, barred="x", other=value, one=3, web=SQUARE)
        for value in [None, 0, True, "", "0", {}, {0: 1}, set(), b"", [4], [-1], [0, 0], (1, 2, 1), [True], [None],
                      [[0]], ((0,),), ["0"], [0, False], 10 ** 50]:
            self.refused(InvalidCorners, {"value": value}, shortest_way, SQUARE, 0, 1, value)
            self.refused(InvalidCorners, {"value": value}, shortest_way, barred=value, other=2, one=2, web=SQUARE)


class PlainRingTest(Checking):

    def test_all_turnings(self):
        for web in [SQUARE, CROSSED, samples.full_web(4), samples.full_web(5), samples.wells_web(3, 3), samples.cube()]:
            for ring in rounds_of(web)[::3]:
                value = plain_ring(web, ring)
                self.yes(is_plain_ring(web, value))
                self.assertIn(value, turnings(ring))
                self.same(value, min([row for row in turnings(ring) if row[0] == min(ring)]))
        self.same(plain_ring(SQUARE, (2, 1, 0, 3)), (0, 1, 2, 3))
        self.same(plain_ring(ring=(3, 2, 1, 0), web=SQUARE), (0, 1, 2, 3))

    def test_chords(self):
        for web in [SQUARE, CROSSED, samples.full_web(4), samples.wells_web(3, 3)] + samples.all_webs(5)[::5]:
            for ring in rounds_of(web):
                own = {frozenset((a, b)) for a, b in zip(ring, ring[1:] + ring[:1])}
                want = any([set(tie) <= set(ring) and frozenset(tie) not in own for tie in web[2]])
                self.assertIs(has_chord(web, ring), want, (web, ring))
        self.yes(has_chord(ring=(3, 2, 1, 0), web=CROSSED))
        self.no(has_chord(ring=(1, 2, 0), web=CROSSED))

    def test_rings_are_looked_at(self):
        further = [(0, 1), (0, 1, 2), (0, 2, 1, 3), (0, 1, 3, 2), (0,), (0, 1, 2, 3, 0), [0, 1, 2, 3], (0, True, 2, 3)]
        for value in further + NO_ROWS + samples.junk():
            for call in (plain_ring, has_chord):
                self.refused(InvalidRing, {"value": value}, call, SQUARE, value)
                self.refused(InvalidRing, {"value": value}, call, ring=value, web=SQUARE)
