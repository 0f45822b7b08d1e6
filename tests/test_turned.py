"""Tests of websolids.turned."""

from tests import looks, samples, solidsamples
from tests.checking import Checking
from tests.test_maps import BOW, LINE, STAR, TAIL, TENT, TIE, some_maps, spoilt
from websolids.codes import is_kept, renamed_chart
from websolids.drawing import drawn
from websolids.errors import InvalidMap, NotThreeJoined, TooMany
from websolids.maps import is_map, mirror
from websolids.turned import back_names, turned

ROOF = ("map", samples.full_web(4), ((1, 3, 2), (0, 2, 3), (0, 3, 1), (0, 1, 2)))


def few_rings(charts):
    """Those of the maps that have at most 20 rings."""
    return [chart for chart in charts if len(chart[1][2]) - chart[1][1] + 2 <= 20]


def looked_round(chart):
    """The map turned about, by [62] alone."""
    rings = looks.rings_by_steps(chart[2])
    left = {step: at for at, ring in enumerate(rings) for step in zip(ring, ring[1:] + ring[:1])}
    rounds = []
    for ring in rings:
        row = [left[(v, u)] for u, v in zip(ring, ring[1:] + ring[:1])]
        rounds.append(tuple(row[row.index(min(row)):] + row[:row.index(min(row))]))
    ties = [(left[(a, b)], left[(b, a)]) for a, b in chart[1][2]]
    return ("map", samples.web_with(len(rings), ties), tuple(rounds))


class TurnedTest(Checking):

    def looked_at(self, chart):
        other = turned(chart)
        self.same(other, looked_round(chart))
        self.yes(is_map(other))
        self.assertTrue(looks.looks_like_map(other))
        self.assertEqual(len(other[1][2]), len(chart[1][2]))
        self.assertIsNone(looks.fewest_in_cut(other[1]))
        names = back_names(chart)
        rings, lots = looks.rings_by_steps(chart[2]), looks.rings_by_steps(other[2])
        self.same(names, tuple([self.around(rings, lot) for lot in lots]))
        self.yes(is_kept(turned(other), chart, names))
        self.same(renamed_chart(turned(other), names), chart)

    def around(self, rings, lot):
        """The one corner that is in all rings of a lot, and in no other ring."""
        corners = [corner for corner in rings[lot[0]] if {at for at, ring in enumerate(rings) if corner in ring} == set(lot)]
        self.assertEqual(len(corners), 1)
        return corners[0]

    def test_many_maps(self):
        charts = few_rings(solidsamples.solid_maps())
        self.assertGreater(len(charts), 30)
        for chart in charts:
            self.looked_at(chart)
            self.looked_at(mirror(chart))

    def test_small_webs(self):
        for web in solidsamples.small_solid_webs():
            self.looked_at(drawn(web))

    def test_known(self):
        self.same(turned(ROOF), ROOF)
        self.same(back_names(ROOF), (1, 0, 3, 2))
        self.same(turned(chart=TENT), TENT)
        self.same(back_names(chart=TENT), (0, 1, 2, 3))
        self.same(turned(drawn(samples.cube()))[1][1], 6)
        self.same([len(row) for row in turned(drawn(samples.cube()))[2]], [4] * 6)
        self.same(turned(drawn(solidsamples.twelve_fives()))[1][1], 12)

    def test_bounds(self):
        for many in range(4, 20):
            chart = drawn(solidsamples.wheel(many - 1))
            self.same(turned(chart)[1][1], many)
        for many in range(5, 13):
            chart = drawn(samples.triangulated(many, many))
            self.same(turned(chart)[1][1], 2 * many - 4)
            self.same(sorted(back_names(chart)), list(range(many)))

    def test_more_than_20_rings(self):
        for many in (13, 20):
            chart = drawn(samples.triangulated(many, many))
            for call in (turned, back_names):
                self.refused(TooMany, {"what": "corners", "limit": 20}, call, chart)
                self.refused(TooMany, {"what": "corners", "limit": 20}, call, chart=chart)

    def test_three_joined_ones_alone(self):
        charts = [chart for chart in some_maps() if chart[1][1] < 4 or looks.fewest_in_cut(chart[1]) is not None]
        self.assertGreater(len(charts), 40)
        triangle = ("map", samples.full_web(3), ((1, 2), (0, 2), (0, 1)))
        # More than 20 rings, but two corners part it.
        many = drawn(samples.wells_web(2, 18))
        hung = drawn(samples.hung([samples.triangulated(10, 1), samples.triangulated(11, 2)], 1))
        for chart in charts + [TIE, LINE, STAR, TAIL, BOW, triangle, many, hung]:
            for call in (turned, back_names):
                self.refused(NotThreeJoined, {}, call, chart)
                self.refused(NotThreeJoined, {}, call, chart=chart)

    def test_maps_are_looked_at(self):
        for value in samples.junk() + samples.no_webs() + spoilt(TENT) + spoilt(TIE) + [TENT[1], [TENT], (TENT,)]:
            for call in (turned, back_names):
                self.refused(InvalidMap, {"value": value}, call, value)
                self.refused(InvalidMap, {"value": value}, call, chart=value)
