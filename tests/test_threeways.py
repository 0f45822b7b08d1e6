"""Tests of websolids.threeways."""

import itertools

from tests import looks, samples
from tests.checking import Checking
from tests.test_webs import NO_CORNERS
from websolids.errors import AreTied, InvalidCorner, InvalidWeb, NotThreeJoined
from websolids.partings import is_three_joined
from websolids.threeways import (
    are_separate, cut_between, is_cut, is_three_ways, most_separate, separate_ways, three_ways,
)

SQUARE = ("web", 4, ((0, 1), (0, 2), (0, 3), (1, 2), (2, 3)))
FULL = samples.full_web(4)
WITH_VALUE = (are_separate, is_cut, is_three_ways)
WITHOUT = (most_separate, separate_ways, cut_between, three_ways)
NO_LISTS = [None, True, False, 0, 3, "", "abc", b"", {}, {(0, 1): 1}, set(), {(0, 1)}, object(), range(3)]


def ends_of(web):
    """All pairs of unlike corners, in both directions."""
    return list(itertools.permutations(range(web[1]), 2))


class WaysTest(Checking):

    def looked_at(self, web, one, other, most):
        ways = separate_ways(web, one, other)
        self.same(most_separate(web, one, other), len(ways))
        self.assertEqual(len(ways), most, (web, one, other))
        self.assertIs(type(ways), list)
        self.assertTrue(looks.look_separate(web, one, other, ways), ways)
        self.yes(are_separate(web, one, other, ways))
        if looks.tied(web, one, other):
            self.refused(AreTied, {}, cut_between, web, one, other)
            return
        cut = cut_between(web, one, other)
        self.assertEqual((type(cut), len(cut), list(cut)), (tuple, len(ways), sorted(set(cut))))
        self.assertTrue(looks.bars(web, one, other, cut) and one not in cut and other not in cut)
        self.yes(is_cut(web, one, other, cut))
        for way in ways:
            self.assertEqual(len(set(way) & set(cut)), 1)

    def test_all_small_webs(self):
        for web in samples.small_webs() + samples.all_webs(5)[1::3]:
            for one, other in ends_of(web):
                self.looked_at(web, one, other, looks.most_by_cuts(web, one, other))

    def test_webs_of_six(self):
        for web in samples.unlike_webs(6):
            for one, other in ends_of(web)[::2]:
                self.looked_at(web, one, other, looks.most_by_cuts(web, one, other))

    def test_large_webs(self):
        # As many ways as the least cut has corners: neither could be if the other were not.
        for web in samples.large_webs():
            for one, other in [(0, web[1] - 1), (web[1] - 1, 0), (1, web[1] // 2 + 1), (2, 3)]:
                least = None if looks.tied(web, one, other) else len(cut_between(web, one, other))
                if least is None:
                    less = ("web", web[1], tuple([tie for tie in web[2] if tie != (min(one, other), max(one, other))]))
                    least = 1 + len(cut_between(less, one, other))
                self.looked_at(web, one, other, least)

    def test_ways_that_must_go_back(self):
        # The shortest way of all is of no use: it bars both others.
        web = samples.web_with(8, [(0, 1), (1, 2), (2, 7), (0, 3), (3, 4), (4, 2), (1, 5), (5, 6), (6, 7)])
        self.looked_at(web, 0, 7, 2)
        self.looked_at(web, 7, 0, 2)
        for length in range(2, 8):
            rows = [(k, k + 1) for k in range(length)]
            ladder = rows + [(a + 10, b + 10) for a, b in rows] + [(k, k + 10) for k in range(length + 1)]
            self.looked_at(samples.web_with(20, ladder), 0, length + 10, 2)

    def test_known(self):
        self.same(most_separate(SQUARE, 1, 3), 2)
        self.same(most_separate(other=2, one=0, web=SQUARE), 3)
        self.same(most_separate(("web", 4, ()), 1, 3), 0)
        self.same(separate_ways(("web", 4, ()), 1, 3), [])
        self.same(cut_between(("web", 4, ()), 1, 3), ())
        self.same(cut_between(other=3, one=1, web=SQUARE), (0, 2))
        self.same(separate_ways(other=1, one=0, web=("web", 2, ((0, 1),))), [(0, 1)])
        self.same(most_separate(samples.full_web(11), 3, 10), 10)
        self.same(most_separate(samples.wells_web(3, 17), 0, 1), 17)
        self.same(most_separate(samples.wells_web(3, 17), 5, 1), 3)
        self.same(most_separate(samples.wells_web(3, 17), 5, 6), 3)
        self.new_list(separate_ways, SQUARE, 1, 3)
        self.new_list(three_ways, FULL, 1, 3)

    def test_three_ways(self):
        for web in samples.all_webs(4) + samples.all_webs(5)[::2] + samples.large_webs():
            ends = ends_of(web) if web[1] < 7 else [(0, web[1] - 1), (3, 4), (web[1] - 2, 1)]
            for one, other in ends:
                if not is_three_joined(web):
                    self.refused(NotThreeJoined, {}, three_ways, web, one, other)
                    continue
                ways = three_ways(web, one, other)
                self.assertEqual((type(ways), len(ways)), (list, 3))
                self.assertTrue(looks.look_separate(web, one, other, ways), ways)
                self.yes(is_three_ways(web, one, other, ways))
        self.yes(is_three_ways(FULL, 2, 3, three_ways(other=3, one=2, web=FULL)))


class JudgesTest(Checking):

    def test_all_lists_of_ways(self):
        for web in [SQUARE, FULL, samples.wells_web(2, 3), samples.all_webs(4)[27], ("web", 3, ((0, 2),))]:
            for one, other in ends_of(web):
                ways = [way for way in looks.all_ways_from(web, one) if way[-1] == other]
                for many in range(4):
                    for value in itertools.product(ways, repeat=many):
                        self.judged(web, one, other, list(value))

    def judged(self, web, one, other, value):
        right = looks.look_separate(web, one, other, value)
        self.assertIs(are_separate(web, one, other, value), right, value)
        self.assertIs(is_three_ways(web, one, other, value), right and len(value) == 3, value)

    def test_four_ways_are_not_three(self):
        web = samples.full_web(6)
        ways = separate_ways(web, 0, 5)
        self.assertEqual(len(ways), 5)
        for many in range(6):
            self.yes(are_separate(value=ways[:many], other=5, one=0, web=web))
            self.assertIs(is_three_ways(web, 0, 5, ways[:many]), many == 3)
        self.no(are_separate(web, 5, 0, ways))
        self.no(are_separate(web, 0, 4, ways))

    def test_a_tuple_stands_for_a_list(self):
        ways = three_ways(FULL, 0, 1)
        self.yes(are_separate(FULL, 0, 1, tuple(ways)))
        self.yes(is_three_ways(value=tuple(ways), other=1, one=0, web=FULL))
        self.yes(are_separate(FULL, 0, 1, ()))
        self.yes(are_separate(FULL, 0, 1, []))
        self.no(is_three_ways(FULL, 0, 1, []))

    def test_ways_that_are_none(self):
        right = [(0, 1), (0, 2, 1), (0, 3, 1)]
        self.yes(is_three_ways(FULL, 0, 1, right))
        wrong = [[0, 1], (0,), (1, 0), (0, 1, 0), (0, 2), (2, 1), (0, 4, 1), (0, -1, 1), (False, 1), (0, True), (0, "2", 1),
                 (0, None, 1), (), None, 0, "01", (0, (2,), 1), ((0, 1),), (0, 2, 2, 1), {0: 1}, (0, 2, 3), (0, 2, 0, 1),
                 (0, 1, 2, 1), (0, 2, 1, 3, 1)]
        for way in wrong:
            for at in range(3):
                value = right[:at] + [way] + right[at + 1:]
                self.no(are_separate(FULL, 0, 1, value), value)
                self.no(is_three_ways(FULL, 0, 1, value), value)
            self.no(are_separate(FULL, 0, 1, [way]), way)
            self.no(are_separate(FULL, 0, 1, right + [way]), way)

    def test_anything_else(self):
        lists = [[], (), [(0, 1)], ((0, 1),)]
        for value in NO_LISTS + [value for value in samples.junk() if value not in lists]:
            self.no(are_separate(FULL, 0, 1, value), value)
        for value in NO_LISTS + samples.junk():
            self.no(is_three_ways(FULL, 0, 1, value), value)
            self.no(is_cut(FULL, 0, 1, value), value)

    def test_all_cuts(self):
        for web in samples.all_webs(4) + samples.all_webs(5)[5::41] + [samples.wells_web(2, 3), samples.ring_web(6)]:
            for one, other in ends_of(web):
                for many in range(web[1] + 1):
                    for cut in itertools.combinations(range(web[1]), many):
                        right = one not in cut and other not in cut and looks.bars(web, one, other, cut)
                        self.assertIs(is_cut(web, one, other, cut), right, (web, one, other, cut))

    def test_no_cuts(self):
        self.yes(is_cut(value=(0, 2), other=3, one=1, web=SQUARE))
        self.yes(is_cut(("web", 4, ()), 1, 3, ()))
        for value in [[0, 2], (2, 0), (0,), (2,), (), (0, 2, 2), (0, 0, 2), (0, 2, 3), (0, 1, 2), (False, 2), (0, 2, 4),
                      (-1, 0, 2), (0, "2"), (0, None, 2), ((0, 2),), {0, 2}, "02", None, (0, (2,)), {0: 1, 2: 3}]:
            self.no(is_cut(SQUARE, 1, 3, value), value)
        line = ("web", 3, ((0, 1), (1, 2)))
        self.yes(is_cut(line, 0, 2, (1,)))
        self.no(is_cut(line, 0, 2, (True,)))
        for value in [(), (1,), (3,), (1, 3), None]:
            self.no(is_cut(SQUARE, 0, 2, value), value)


class RefusalTest(Checking):

    def test_webs_are_looked_at(self):
        for value in samples.no_webs():
            for call in WITHOUT:
                self.refused(InvalidWeb, {"value": value}, call, value, 0, 1)
                self.refused(InvalidWeb, {"value": value}, call, other=None, one=None, web=value)
            for call in WITH_VALUE:
                self.refused(InvalidWeb, {"value": value}, call, value, 0, 1, [])
                self.refused(InvalidWeb, {"value": value}, call, value=None, other=None, one=None, web=value)

    def test_corners_are_looked_at(self):
        for web in (SQUARE, FULL):
            for value in NO_CORNERS:
                told = {"value": value}
                for call in WITHOUT:
                    self.refused(InvalidCorner, told, call, web, value, 0)
                    self.refused(InvalidCorner, told, call, web, 0, value)
                    self.refused(InvalidCorner, told, call, web, value, "later")
                    self.refused(InvalidCorner, told, call, other=value, one=1, web=web)
                for call in WITH_VALUE:
                    self.refused(InvalidCorner, told, call, web, value, 0, None)
                    self.refused(InvalidCorner, told, call, web, 0, value, [])
                    self.refused(InvalidCorner, told, call, value=3, other="later", one=value, web=web)

    def test_other_must_be_another_one(self):
        for web, corner in itertools.product((SQUARE, FULL, ("web", 4, ())), range(4)):
            for call in WITHOUT:
                self.refused(InvalidCorner, {"value": corner}, call, web, corner, corner)
            for call in WITH_VALUE:
                self.refused(InvalidCorner, {"value": corner}, call, web, corner, corner, [])
                self.refused(InvalidCorner, {"value": corner}, call, value=(), other=corner, one=corner, web=web)
        self.refused(InvalidCorner, {"value": 0}, most_separate, ("web", 1, ()), 0, 0)
