"""Tests of websolids.census."""

import itertools

from tests import looks, samples, solidsamples
from tests.checking import Checking
from tests.solidlooks import steps_of
from tests.test_maps import LINE, STAR, TENT, TIE, some_maps, spoilt
from websolids.census import all_codes, can_take_out, codes_with, kind_of
from websolids.codes import chart_of_code, code, is_code
from websolids.drawing import drawn
from websolids.errors import InvalidCorner, InvalidMany, InvalidMap, InvalidWeb, NoKind
from websolids.maps import mirror, rings_of
from websolids.turned import turned

FOUR = samples.full_web(4)
NO_NUMBERS = [value for value in samples.junk() if type(value) is not int] + [3, 7, 0, 1, 2, 20, -4, 10 ** 50, True, False]
NO_MAPS = samples.junk() + spoilt(TENT) + samples.no_webs()[::3] + [TENT[1], TENT[2], list(TENT), FOUR]


def tried(many):
    """The sorted list of the codes of the maps of all webs of solids among webs with so many corners."""
    webs = samples.unlike_webs(6) if many == 6 else samples.all_webs(many)
    return sorted({code(drawn(web)) for web in webs if solidsamples.is_solid_web(web)})


def may_be_lost(chart, one, other):
    """Whether a tie may be taken out, as the fact of [153] tells: by ties and rings."""
    if min([len(chart[2][corner]) for corner in (one, other)]) < 4:
        return False
    beside = [ring for ring in rings_of(chart) if {(one, other), (other, one)} & set(steps_of(ring))]
    steps = [step for ring in beside for step in steps_of(ring) if set(step) != {one, other}]
    for ring in rings_of(chart):
        if ring not in beside:
            shared = set(ring) & {corner for step in steps for corner in step}
            sides = [step for step in steps_of(ring) if set(step) <= shared and step[::-1] in steps]
            if len(shared) > 2 or len(shared) == 2 and not sides:
                return False
    return True


class CodesTest(Checking):

    def test_all_webs_tried(self):
        for many in (4, 5, 6):
            self.same(all_codes(many), tried(many))
            self.same(all_codes(many=many), all_codes(many))
        self.same([len(all_codes(many)) for many in (4, 5, 6)], [1, 2, 7])

    def test_codes(self):
        for many in (4, 5, 6):
            codes = all_codes(many)
            self.assertEqual(codes, sorted(set(codes)))
            for each in codes:
                self.yes(is_code(each))
                self.assertTrue(solidsamples.is_solid_web(chart_of_code(each)[1]))

    def test_by_ties(self):
        for many in (4, 5, 6):
            lots = [codes_with(many, ties) for ties in range(61)]
            self.same(sorted([each for lot in lots for each in lot]), all_codes(many))
            for ties, lot in enumerate(lots):
                self.assertEqual(lot, sorted(lot))
                self.assertTrue(all([len(chart_of_code(each)[1][2]) == ties for each in lot]))
        self.same([len(codes_with(6, ties)) for ties in range(8, 14)], [0, 1, 2, 2, 2, 0])
        self.same([len(codes_with(5, ties)) for ties in range(7, 11)], [0, 1, 1, 0])
        self.same([codes_with(ties=6, many=4), codes_with(4, 5), codes_with(4, 0), codes_with(6, 60)],
                  [all_codes(4), [], [], []])

    def test_turned_about(self):
        # The kinds with so many corners and rings are, turned about, those with as many rings and corners.
        lots = {}
        for each in [each for many in (4, 5, 6) for each in all_codes(many)]:
            chart = chart_of_code(each)
            lots.setdefault((chart[1][1], len(rings_of(chart))), []).append(each)
        for (many, rings), lot in lots.items():
            if rings <= 6:
                self.assertEqual(sorted([code(turned(chart_of_code(each))) for each in lot]), lots[(rings, many)])

    def test_known(self):
        self.same(all_codes(4), [code(TENT)])
        wheels = {many: code(drawn(solidsamples.wheel(many - 1))) for many in (4, 5, 6)}
        for many, wheel in wheels.items():
            self.assertIn(wheel, all_codes(many))
            self.assertIn(wheel, codes_with(many, 2 * many - 2))
        self.same(codes_with(6, 9), [code(drawn(solidsamples.prism(3)))])
        self.assertIn(code(drawn(solidsamples.antiprism(3))), codes_with(6, 12))
        self.same(codes_with(5, 9), [code(drawn(solidsamples.double_wheel(3)))])

    def test_new_lists(self):
        self.new_list(all_codes, 4)
        self.new_list(all_codes, 6)
        self.new_list(codes_with, 6, 11)
        self.new_list(codes_with, 6, 1)

    def test_numbers_are_looked_at(self):
        for value in NO_NUMBERS:
            self.refused(InvalidMany, {"value": value}, all_codes, value)
            self.refused(InvalidMany, {"value": value}, all_codes, many=value)
            self.refused(InvalidMany, {"value": value}, codes_with, value, 9)
            self.refused(InvalidMany, {"value": value}, codes_with, ties=None, many=value)
        for value in [value for value in samples.junk() if type(value) is not int] + [-1, 61, 10 ** 50, True, False]:
            self.refused(InvalidMany, {"value": value}, codes_with, 6, value)
            self.refused(InvalidMany, {"value": value}, codes_with, ties=value, many=4)


class KindOfTest(Checking):

    def test_webs_of_solids(self):
        for seed, web in enumerate(solidsamples.small_solid_webs()):
            wanted = all_codes(web[1]).index(code(drawn(web))) if seed % 8 == 0 or web[1] == 6 else None
            told = kind_of(web)
            if wanted is not None:
                self.same(told, wanted)
                for further in range(3):
                    self.same(kind_of(samples.mixed(web, 10 * seed + further)), told)
        self.assertEqual({kind_of(web) for web in solidsamples.small_solid_webs() if web[1] == 6}, set(range(7)))
        self.same(kind_of(web=FOUR), 0)

    def test_no_kinds(self):
        webs = [web for web in samples.all_webs(4) + samples.all_webs(5)[::3] if not solidsamples.is_solid_web(web)]
        webs += [web for web in samples.unlike_webs(6)[::3] if not solidsamples.is_solid_web(web)]
        webs += [("web", 1, ()), samples.full_web(2), samples.full_web(3), samples.full_web(6), samples.wells_web(3, 3)]
        for web in webs + [web for web in solidsamples.solid_webs() if web[1] > 6]:
            self.refused(NoKind, {}, kind_of, web)
            self.refused(NoKind, {}, kind_of, web=web)

    def test_webs_are_looked_at(self):
        for value in samples.no_webs():
            self.refused(InvalidWeb, {"value": value}, kind_of, value)
            self.refused(InvalidWeb, {"value": value}, kind_of, web=value)


class TakenOutTest(Checking):

    def test_each_tie(self):
        found = {True: 0, False: 0}
        webs = solidsamples.small_solid_webs()[::7] + solidsamples.small_solid_webs()[-7:] + solidsamples.solid_webs()
        for at, web in enumerate(webs):
            chart = mirror(drawn(web)) if at % 2 else drawn(web)
            for one, other in web[2][::1 + web[1] // 7]:
                rest = ("web", web[1], tuple([tie for tie in web[2] if tie != (one, other)]))
                wanted = looks.fewest_in_cut(rest) is None
                self.assertIs(may_be_lost(chart, one, other), wanted)
                self.assertIs(can_take_out(chart, one, other), wanted)
                self.assertIs(can_take_out(other=one, one=other, chart=chart), wanted)
                found[wanted] += 1
        self.assertGreater(min(found.values()), 100, found)

    def test_growing_misses_nothing(self):
        # Each kind that isn't full comes of one with a tie more.
        for many in (5, 6):
            found = {each for each in all_codes(many) if len(chart_of_code(each)[1][2]) == 3 * many - 6}
            for each in sorted(all_codes(many), key=lambda each: -len(chart_of_code(each)[1][2])):
                if each in found:
                    chart = chart_of_code(each)
                    for tie in [tie for tie in chart[1][2] if can_take_out(chart, *tie)]:
                        rest = ("web", many, tuple([other for other in chart[1][2] if other != tie]))
                        found.add(code(drawn(rest)))
            self.assertEqual(sorted(found), all_codes(many))

    def test_known(self):
        for one, other in itertools.permutations(range(4), 2):
            self.no(can_take_out(TENT, one, other))
        eight = drawn(solidsamples.antiprism(3))
        for one, other in eight[1][2]:
            self.yes(can_take_out(eight, one, other))
        twelve = drawn(solidsamples.twelve_fives())
        self.no(can_take_out(twelve, *twelve[1][2][0]))

    def test_no_maps_of_solids(self):
        charts = [chart for chart in some_maps() if not solidsamples.is_solid_web(chart[1])]
        for chart in [TIE, LINE, STAR] + charts[::6]:
            one, other = chart[1][2][-1]
            self.refused(NoKind, {}, can_take_out, chart, one, other)
            self.refused(NoKind, {}, can_take_out, other=one, one=other, chart=chart)
            self.refused(InvalidCorner, {"value": one}, can_take_out, chart, one, one)
        ring = drawn(samples.ring_web(5))
        self.refused(InvalidCorner, {"value": 2}, can_take_out, ring, 0, 2)

    def test_maps_and_corners_are_looked_at(self):
        for value in NO_MAPS:
            self.refused(InvalidMap, {"value": value}, can_take_out, value, 0, 1)
            self.refused(InvalidMap, {"value": value}, can_take_out, other=None, one=None, chart=value)
        wrong = [value for value in samples.junk() if type(value) is not int] + [-1, 8, 20, 10 ** 50, True, False]
        cube = drawn(samples.cube())
        for value in wrong:
            self.refused(InvalidCorner, {"value": value}, can_take_out, cube, value, None)
            self.refused(InvalidCorner, {"value": value}, can_take_out, cube, 0, value)
            self.refused(InvalidCorner, {"value": value}, can_take_out, other=value, one=0, chart=LINE)
        for value in (0, 3, 5, 6, 7):
            self.refused(InvalidCorner, {"value": value}, can_take_out, cube, 0, value)
