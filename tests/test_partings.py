"""Tests of websolids.partings."""

import itertools

from tests import looks, samples
from tests.checking import Checking
from websolids.errors import InvalidWeb
from websolids.partings import is_parting, is_three_joined, least_cut, parting

SQUARE = ("web", 4, ((0, 1), (0, 2), (0, 3), (1, 2), (2, 3)))
FULL = samples.full_web(4)
WHEEL = samples.web_with(6, [(0, k) for k in range(1, 6)] + [(k, k % 5 + 1) for k in range(1, 6)])


def subsets(many, longest):
    """All rising tuples of corners."""
    return [row for length in range(longest + 1) for row in itertools.combinations(range(many), length)]


def spoilt(paper):
    """Papers that are none, made of one that is."""
    word, cut, side = paper
    wrong = [list(paper), [paper], (paper,), paper[:2], paper + ((),), ("part", cut, side), (word, side), (cut, side),
             ("Parts", cut, side), (b"parts", cut, side), (["parts"], cut, side), (None, cut, side), (word, cut, ()),
             (word, list(cut), side), (word, cut, list(side)), (word, cut, None), (word, None, side), (word, side[0], cut),
             (word, cut, set(side)), (word, cut + (True,), side), (word, cut, side + side[-1:]), (word, cut, side[0]),
             (word, cut, (-1,) + side), (word, cut, side + (20,)), (word, cut, side + ("x",)), (word, (-1,) + cut, side),
             (word, cut + (20,), side), (word, cut + (None,), side), (word, cut, ((side[0],),)), (word, "", side)]
    wrong += [(word, tuple([bool(c) for c in cut]), side)] * (1 in cut or 0 in cut)
    wrong += [(word, cut, tuple([bool(c) if c < 2 else c for c in side]))] * (0 in side or 1 in side)
    wrong += [(word, cut[::-1], side)] * (len(cut) > 1) + [(word, cut, side[::-1])] * (len(side) > 1)
    wrong += [(word, cut + cut[-1:], side), (word, cut, tuple(sorted(side + cut)))] * (len(cut) > 0)
    return wrong


class PartingTest(Checking):

    def looked_at(self, web):
        fewest = looks.fewest_in_cut(web)
        self.same(least_cut(web), fewest)
        self.assertIs(is_three_joined(web), web[1] >= 4 and fewest is None, web)
        paper = parting(web)
        if fewest is None:
            self.assertIsNone(paper)
            return
        self.yes(is_parting(web, paper))
        self.assertEqual((type(paper), paper[0], len(paper[1])), (tuple, "parts", fewest))
        self.assertTrue(looks.looks_like_parting(web, paper), paper)
        self.assertEqual((list(paper[1]), list(paper[2])), (sorted(set(paper[1])), sorted(set(paper[2]))))

    def test_all_small_webs(self):
        for web in samples.small_webs() + samples.all_webs(5) + samples.unlike_webs(6):
            self.looked_at(web)

    def test_large_webs(self):
        for web in samples.large_webs():
            self.looked_at(web)

    def test_known_webs(self):
        for web in [FULL, WHEEL, samples.cube(), samples.wells_web(3, 3), samples.full_web(10), samples.wells_web(3, 17)]:
            self.yes(is_three_joined(web))
            self.assertIsNone(parting(web))
            self.assertIsNone(least_cut(web=web))
        for web in [("web", 1, ()), samples.full_web(2), samples.full_web(3)]:
            self.no(is_three_joined(web=web))
            self.assertIsNone(parting(web=web))
        for web, many in [(SQUARE, 2), (samples.ring_web(20), 2), (samples.tree(20, 3), 1), (("web", 2, ()), 0),
                          (("web", 3, ((0, 1),)), 0), (samples.wells_web(2, 18), 2), (("web", 20, ()), 0),
                          (samples.hung([FULL, FULL], 1), 1), (samples.apart([FULL, FULL]), 0)]:
            self.same(least_cut(web), many)
            self.no(is_three_joined(web))

    def test_each_corner_of_a_three_joined_web_has_three_neighbours(self):
        for web in samples.large_webs() + samples.all_webs(5):
            if is_three_joined(web):
                self.assertGreaterEqual(min([len(looks.beside(web, corner)) for corner in range(web[1])]), 3)

    def test_webs_are_looked_at(self):
        for value in samples.no_webs():
            for call in (parting, least_cut, is_three_joined):
                self.refused(InvalidWeb, {"value": value}, call, value)
                self.refused(InvalidWeb, {"value": value}, call, web=value)
            self.refused(InvalidWeb, {"value": value}, is_parting, value, ("parts", (), (0,)))
            self.refused(InvalidWeb, {"value": value}, is_parting, value=None, web=value)


class IsPartingTest(Checking):

    def test_all_cuts_and_sides(self):
        webs = samples.small_webs() + samples.all_webs(5)[3::60] + [WHEEL, samples.wells_web(2, 3), samples.ring_web(6)]
        for web in webs:
            for cut, side in itertools.product(subsets(web[1], 3), subsets(web[1], web[1])):
                paper = ("parts", cut, side)
                self.assertIs(is_parting(web, paper), looks.looks_like_parting(web, paper), (web, paper))

    def test_three_corners_are_no_cut(self):
        self.no(is_parting(samples.wells_web(3, 3), ("parts", (0, 1, 2), (3,))))
        self.no(is_parting(samples.cube(), ("parts", (1, 2, 4), (0,))))

    def test_some_of_the_parts(self):
        web = samples.web_with(7, [(0, k) for k in range(1, 6)] + [(4, 5)])
        for side in [(1,), (1, 2), (1, 6), (4, 5), (1, 2, 3, 6), (1, 2, 3, 4, 5), (6,)]:
            self.yes(is_parting(value=("parts", (0,), side), web=web), side)
        for side in [(4,), (5,), (1, 4), (1, 2, 3, 4, 5, 6), (0, 1), ()]:
            self.no(is_parting(web, ("parts", (0,), side)), side)
        self.yes(is_parting(web, ("parts", (), (6,))))
        self.yes(is_parting(web, ("parts", (), (0, 1, 2, 3, 4, 5))))
        self.no(is_parting(web, ("parts", (3, 6), (0, 1, 2, 4, 5))))

    def test_anything_else(self):
        papers = [(SQUARE, ("parts", (0, 2), (1,))), (("web", 3, ((0, 1),)), ("parts", (), (0, 1))),
                  (samples.hung([FULL, FULL], 1), None), (samples.ring_web(6), ("parts", (1, 4), (2, 3))),
                  (samples.ring_web(6), ("parts", (2, 5), (0, 1))), (samples.tree(9, 5), None)]
        for web, paper in papers:
            paper = paper or parting(web)
            self.yes(is_parting(web, paper))
            for value in spoilt(paper) + samples.junk():
                self.no(is_parting(web, value), value)
