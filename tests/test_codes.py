"""Tests of websolids.codes."""

import itertools
import random

from tests import samples, solidsamples
from tests.checking import Checking
from tests.test_maps import BOW, LINE, STAR, TAIL, TAIL_WITHIN, TENT, TIE, all_maps, some_maps, spoilt
from tests.test_turned import ROOF
from websolids.codes import (
    are_alike, chart_of_code, code, is_code, is_kept, is_naming, naming, own_namings, renamed_chart, writing,
)
from websolids.drawing import drawn
from websolids.errors import InvalidCode, InvalidMap, InvalidNames, InvalidTie, InvalidWay
from websolids.maps import is_map, mirror

BENT = ("map", ("web", 4, ((0, 1), (1, 2), (1, 3))), ((1,), (0, 3, 2), (1,), (1,)))
RING3, RING5 = drawn(samples.ring_web(3)), drawn(samples.ring_web(5))
ROW = drawn(samples.web_with(4, [(0, 1), (1, 2), (2, 3)]))
# Maps that are told by few corners: of trees, of rings, of blocks that hang on one corner.
SMALL = [TIE, LINE, ROW, RING3, RING5, drawn(samples.ring_web(4)), BENT, TAIL, TAIL_WITHIN, TENT, ROOF, BOW, STAR]
SMALL += [drawn(solidsamples.wheel(4)), mirror(drawn(samples.tree(5, 3)))]
NO_MAPS = samples.junk() + samples.no_webs()[::4] + spoilt(TENT)[::2] + [TENT[1], [TENT]]


def turned_from(row, first):
    """A row from one of its corners on."""
    at = row.index(first)
    return tuple(row[at:] + row[:at])


def written(chart, tie, way):
    """The writing, by [63] alone."""
    first, number, rows = {tie[0]: tie[1], tie[1]: tie[0]}, {tie[0]: 0, tie[1]: 1}, []
    for at in range(chart[1][1]):
        corner = [c for c in number if number[c] == at][0]
        row = chart[2][corner] if way == "kept" else chart[2][corner][::-1]
        row = turned_from(row, first[corner])
        for other in row:
            if other not in number:
                first[other] = corner
                number[other] = len(number)
        rows.append(row)
    return tuple([tuple([number[other] for other in row]) for row in rows])


def all_written(chart):
    """All writings."""
    ties = list(chart[1][2]) + [(b, a) for a, b in chart[1][2]]
    return [written(chart, tie, way) for tie in ties for way in ("kept", "mirrored")]


def leads(chart, other, names):
    """Whether a row of names leads the rounds to the other map's: "kept", "mirrored", both of them or none."""
    told = []
    for way, step in (("kept", 1), ("mirrored", -1)):
        rows = [[names[c] for c in row[::step]] for row in chart[2]]
        if all([turned_from(row, min(row)) == other[2][names[corner]] for corner, row in enumerate(rows)]):
            told.append(way)
    return told


def namings_tried(chart, other):
    """All namings, by trying all rows of names."""
    if chart[1][1] != other[1][1]:
        return []
    return [names for names in itertools.permutations(range(chart[1][1])) if leads(chart, other, names)]


def mixed(chart, seed):
    """The map renamed by chance, and the names."""
    names = list(range(chart[1][1]))
    random.Random(seed).shuffle(names)
    return renamed_chart(chart, names), tuple(names)


class WritingTest(Checking):

    def test_all_writings(self):
        for chart in SMALL + some_maps()[::9] + list(solidsamples.solid_maps()[::9]):
            for a, b in chart[1][2]:
                for tie, way in itertools.product([(a, b), (b, a)], ["kept", "mirrored"]):
                    self.same(writing(chart, tie, way), written(chart, tie, way))

    def test_the_code_is_the_least(self):
        for chart in SMALL + some_maps()[::5] + list(solidsamples.solid_maps()[::4]):
            told = code(chart)
            self.same(told, min(all_written(chart)))
            self.yes(is_code(told))
            self.same(code(mirror(chart)), told)
            for value in sorted(set(all_written(chart)))[1:4]:
                self.no(is_code(value))

    def test_the_map_of_a_code(self):
        for at, chart in enumerate(SMALL + some_maps()[::7] + list(solidsamples.solid_maps()[::5])):
            told = code(mixed(chart, at)[0])
            self.same(told, code(chart=chart))
            back = chart_of_code(told)
            self.yes(is_map(back))
            self.same(code(back), told)
            self.same(writing(back, (0, 1), "kept"), told)
            self.same(back[2], tuple([turned_from(row, min(row)) for row in told]))
            self.yes(are_alike(back, chart))

    def test_known(self):
        self.same(writing(ROOF, (0, 1), "kept"), ((1, 2, 3), (0, 3, 2), (0, 1, 3), (0, 2, 1)))
        self.same(writing(way="mirrored", tie=(3, 2), chart=ROOF), code(ROOF))
        self.same(len(set(all_written(ROOF))), 1)
        self.same(writing(BENT, (0, 1), "kept"), ((1,), (0, 2, 3), (1,), (1,)))
        self.same(writing(BENT, (1, 0), "mirrored"), ((1, 2, 3), (0,), (0,), (0,)))
        self.same(code(TIE), ((1,), (0,)))
        self.same(chart_of_code(code=((1,), (0,))), TIE)
        self.same(code(RING3), ((1, 2), (0, 2), (0, 1)))
        self.same(chart_of_code(code(BENT)), renamed_chart(BENT, (0, 1, 3, 2)))
        self.yes(is_code(((1,), (0, 2), (1,))))

    def test_what_is_no_code(self):
        told = code(drawn(samples.cube()))
        for value in [list(told), told[:-1], told + ((0,),), told[1:], told[::-1], (told,), told + ((),),
                      tuple([list(row) for row in told]), told[:1] + (None,) + told[2:], told[:1] + ((),) + told[2:],
                      ((True,) + told[0][1:],) + told[1:], (told[0][::-1],) + told[1:], (told[0] + (3,),) + told[1:],
                      ((20,) + told[0][1:],) + told[1:], ((-1,) + told[0][1:],) + told[1:], (told[0][:2],) + told[1:],
                      (("1",) + told[0][1:],) + told[1:], ((0,) + told[0][1:],) + told[1:], ((1, 1, 2),) + told[1:],
                      (told[0][1:] + told[0][:1],) + told[1:]] + samples.junk() + samples.no_webs():
            self.no(is_code(value), value)
            self.refused(InvalidCode, {"value": value}, chart_of_code, value)
            self.refused(InvalidCode, {"value": value}, chart_of_code, code=value)
        for value in [((1,),), ((),), ((0,),), ((1,), ()), ((1,), (1,)), ((False,), (0,)), ((1,), (False,)),
                      ((1, 2), (0, 2), (1, 0)), ((1, 2), (0,), (0,)), ((1,), (0,), (3,), (2,)), (([1],), (0,)),
                      tuple([tuple([b for b in range(20) if b != a]) for a in range(20)]),
                      tuple([tuple([b for b in range(5) if b != a]) for a in range(5)])]:
            self.no(is_code(value), value)
            self.refused(InvalidCode, {"value": value}, chart_of_code, value)

    def test_all_small_rows(self):
        known = [code(chart) for web in samples.small_webs() if web[2] and samples.hangs_together(web)
                 for chart in all_maps(web)]
        rows = [row for many in range(1, 4) for row in itertools.permutations(range(4), many)]
        for many in (2, 3):
            for value in itertools.product(rows, repeat=many):
                self.assertIs(is_code(value), value in known, value)
        chance = random.Random(5)
        for value in known + [tuple([chance.choice(rows) for _ in range(4)]) for _ in range(3000)]:
            self.assertIs(is_code(value), value in known, value)

    def test_ties_and_manners_are_looked_at(self):
        for value in [value for value in samples.junk() if value not in [(0, 1), (1, 0)]] + [
                (0, 2), (2, 0), (0, 0), (1, 4), (-1, 0), [0, 1], (0, 1, 1), (0,), (False, 1), (0, True), (False, True),
                ("0", "1"), (0, None), ((0, 1),), {0: 1}, "01"]:
            self.refused(InvalidTie, {"value": value}, writing, BENT, value, "kept")
            self.refused(InvalidTie, {"value": value}, writing, way=None, tie=value, chart=LINE)
        for value in samples.junk() + ["Kept", "kept ", "mirror", "turned", b"kept", ["kept"], ("kept",), {"kept": 1}]:
            self.refused(InvalidWay, {"value": value}, writing, BENT, (1, 0), value)
            self.refused(InvalidWay, {"value": value}, writing, way=value, tie=(1, 3), chart=BENT)


class NamingTest(Checking):

    def test_renamed(self):
        for at, chart in enumerate(SMALL + some_maps()[::6] + list(solidsamples.solid_maps()[::6])):
            other, names = mixed(chart, at)
            self.yes(is_map(other))
            self.same(other[1], samples.web_with(chart[1][1], [(names[a], names[b]) for a, b in chart[1][2]]))
            self.assertIn("kept", leads(chart, other, names))
            self.yes(is_kept(chart, other, names))
            self.yes(is_naming(chart, other, names))
            self.same(renamed_chart(names=list(names), chart=chart), other)
            self.same(renamed_chart(chart, names), other)
            back = tuple([names.index(corner) for corner in range(len(names))])
            self.same(renamed_chart(other, back), chart)
            self.same(renamed_chart(chart, tuple(range(len(names)))), chart)

    def test_all_namings_tried(self):
        for chart, other in itertools.product(SMALL, repeat=2):
            want = namings_tried(chart, other)
            self.same(naming(chart, other), min(want) if want else None)
            self.assertIs(are_alike(chart, other), want != [])
            if chart == other:
                self.same(own_namings(chart), sorted(want))

    def test_all_rows_of_names(self):
        for chart, other in [(BENT, BENT), (BENT, mirror(BENT)), (TENT, ROOF), (LINE, LINE), (RING3, RING3), (TIE, TIE),
                             (TAIL, TAIL_WITHIN), (TAIL, mirror(TAIL)), (TENT, BENT), (RING3, LINE), (STAR, STAR), (RING5, RING5)]:
            for names in itertools.permutations(range(chart[1][1])):
                want = leads(chart, other, names) if chart[1][1] == other[1][1] else []
                self.assertIs(is_naming(chart, other, names), want != [])
                self.assertIs(is_kept(chart, other, names), "kept" in want)
                self.no(is_naming(chart, other, list(names)))
                self.no(is_kept(chart, other, list(names)))

    def test_rows_that_are_no_names(self):
        for names in itertools.product(range(-1, 5), repeat=4):
            if len(set(names)) < 4 or min(names) < 0 or max(names) > 3:
                self.no(is_naming(TENT, ROOF, names))
                self.no(is_kept(TENT, TENT, names))
        for value in samples.junk() + [(0, 1, 2), (0, 1, 2, 3, 4), [0, 1, 2, 3], (False, True, 2, 3), ("0", "1", "2", "3"),
                                       ((0, 1, 2, 3),), {0: 0, 1: 1, 2: 2, 3: 3}, "0123", (0, 1, 2, None)]:
            self.no(is_naming(TENT, TENT, value), value)
            self.no(is_kept(value=value, other=TENT, chart=TENT), value)
        for value in [False, True, 0, (), [0, 1], (0,), (1,), (0, 0), (0, 1, 2), (False, True), (0, None), ("0", 1), {0: 1}]:
            self.no(is_naming(value=value, other=TIE, chart=TIE), value)
        self.no(is_naming(TENT, BOW, (0, 1, 2, 3, 4)))
        self.no(is_naming(TENT, BOW, (0, 1, 2, 3)))
        self.no(is_kept(BOW, TENT, (0, 1, 2, 3)))

    def test_alike_by_codes(self):
        charts = SMALL + some_maps()[::11] + list(solidsamples.solid_maps()[::7])
        codes = [min(all_written(chart)) for chart in charts]
        for at, chart in enumerate(charts):
            for other, fellow in zip(charts[at:], codes[at:]):
                self.assertIs(are_alike(chart, other), codes[at] == fellow)
                self.assertIs(naming(other, chart) is not None, codes[at] == fellow)

    def test_mixed_ones_are_alike(self):
        for at, chart in enumerate(SMALL + some_maps()[::8] + list(solidsamples.solid_maps()[::5])):
            for first in (chart, mirror(chart)):
                other = mixed(first, at)[0]
                self.yes(are_alike(chart, other))
                names = naming(chart, other)
                self.assertNotEqual(leads(chart, other, names), [])
                self.yes(is_naming(chart, other, names))

    def test_own_namings(self):
        for at, chart in enumerate(SMALL + list(solidsamples.solid_maps()[::3])):
            rows = own_namings(chart)
            self.assertEqual(rows, sorted(set(rows)))
            self.assertIn(tuple(range(chart[1][1])), rows)
            self.assertLessEqual(len(rows), 4 * len(chart[1][2]))
            for names in rows:
                self.assertNotEqual(leads(chart, chart, names), [])
            self.same(naming(chart, chart), rows[0])
            other = mixed(chart, at)[0]
            self.assertEqual(len(own_namings(other)), len(rows))
            self.same(naming(chart, other), min([leading for leading in self.through(chart, other, rows)]))

    def through(self, chart, other, rows):
        """All namings to another map: a naming behind each own one."""
        names = naming(chart, other)
        return [tuple([names[corner] for corner in row]) for row in rows]

    def test_known(self):
        rows = own_namings(chart=ROOF)
        self.assertEqual(len(rows), 24)
        self.assertEqual(len([row for row in rows if is_kept(ROOF, ROOF, row)]), 12)
        self.same(own_namings(TIE), [(0, 1), (1, 0)])
        self.same(own_namings(LINE), [(0, 1, 2), (2, 1, 0)])
        self.same(len(own_namings(RING5)), 10)
        self.same(len(own_namings(drawn(samples.cube()))), 48)
        self.same(len(own_namings(drawn(solidsamples.twelve_fives()))), 120)
        self.same(len(own_namings(drawn(solidsamples.wheel(5)))), 10)
        self.yes(is_naming(BENT, BENT, (0, 1, 3, 2)))
        self.no(is_kept(BENT, BENT, (0, 1, 3, 2)))
        self.no(are_alike(other=BENT, chart=ROOF))
        self.assertIsNone(naming(other=BENT, chart=ROOF))
        self.no(are_alike(TAIL, BENT))
        # The tail stands within the ring or without: mirrored on the whole plane both are one.
        self.yes(are_alike(TAIL, TAIL_WITHIN))
        self.new_list(own_namings, ROOF)

    def test_maps_of_one_web_that_are_not_alike(self):
        web = samples.web_with(6, [(0, 1), (1, 2), (0, 2), (0, 3), (0, 4), (1, 5)])
        charts = all_maps(web)
        codes = {code(chart) for chart in charts}
        self.assertGreater(len(codes), 1)
        for chart, other in itertools.product(charts, repeat=2):
            self.assertIs(are_alike(chart, other), code(chart) == code(other))
            self.assertIs(namings_tried(chart, other) != [], code(chart) == code(other))

    def test_names_are_looked_at(self):
        for value in [None, True, 0, "", "0123", {}, {0: 0, 1: 1, 2: 2, 3: 3}, set(), {0, 1, 2, 3}, b"", [], (), [0], [0, 1, 2],
                      [0, 1, 2, 2], (0, 1, 2, 4), [0, 1, 2, -1], [0, True, 2, 3], (False, 1, 2, 3), [0, 1, 2, 3, 4], ["0", 1, 2, 3],
                      [(0,), 1, 2, 3], [None, 1, 2, 3], [[0, 1, 2, 3]], 10 ** 50]:
            self.refused(InvalidNames, {"value": value}, renamed_chart, TENT, value)
            self.refused(InvalidNames, {"value": value}, renamed_chart, names=value, chart=BENT)

    def test_maps_are_looked_at(self):
        for value in NO_MAPS:
            for call in (code, own_namings):
                self.refused(InvalidMap, {"value": value}, call, value)
                self.refused(InvalidMap, {"value": value}, call, chart=value)
            for call in (are_alike, naming):
                self.refused(InvalidMap, {"value": value}, call, value, TENT)
                self.refused(InvalidMap, {"value": value}, call, TENT, value)
                self.refused(InvalidMap, {"value": value}, call, other="later", chart=value)
                self.refused(InvalidMap, {"value": value}, call, other=value, chart=LINE)
            for call in (is_naming, is_kept):
                self.refused(InvalidMap, {"value": value}, call, value, TENT, (0, 1, 2, 3))
                self.refused(InvalidMap, {"value": value}, call, TENT, value, (0, 1, 2, 3))
                self.refused(InvalidMap, {"value": value}, call, value=None, other="later", chart=value)
            self.refused(InvalidMap, {"value": value}, renamed_chart, value, (0, 1, 2, 3))
            self.refused(InvalidMap, {"value": value}, renamed_chart, names=None, chart=value)
            self.refused(InvalidMap, {"value": value}, writing, value, (0, 1), "kept")
            self.refused(InvalidMap, {"value": value}, writing, way=None, tie=None, chart=value)

    def test_again(self):
        for chart in solidsamples.solid_maps()[::9]:
            self.same(code(chart), code(chart))
            self.same(naming(chart, mirror(chart)), naming(chart, mirror(chart)))
            self.same(chart_of_code(code(chart)), chart_of_code(code(chart)))
