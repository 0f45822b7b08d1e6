"""Tests of websolids.drawing."""

import itertools

from tests import looks, samples
from tests.checking import Checking
from websolids.barred import barred_part, is_barred
from websolids.drawing import blocks, drawn
from websolids.errors import InvalidWeb, NotJoined
from websolids.maps import is_map, rings_of

FIVE = samples.full_web(5)


def rings_in(web):
    """The ties of all rings, each ring's as a set."""
    found = set()
    for corner in range(web[1]):
        for way in looks.all_ways_from(web, corner):
            if len(way) > 2 and way[0] == min(way) and looks.tied(web, way[0], way[-1]):
                found.add(frozenset([(min(a, b), max(a, b)) for a, b in zip(way, way[1:] + way[:1])]))
    return found


def blocks_by_rings(web):
    """The blocks, told by all rings: two ties are of one block if they are one, or on a common ring."""
    rings = rings_in(web)
    found = set()
    for tie in web[2]:
        found.add(tuple(sorted({tie}.union(*[ring for ring in rings if tie in ring]))))
    return sorted(found)


def blocks_by_corners(web):
    """The blocks of a larger web: the ties at one corner hang together if they do so without that corner."""
    lot = {tie: {tie} for tie in web[2]}
    for corner in range(web[1]):
        for part in looks.lots_without(web, (corner,)):
            ties = [tie for tie in web[2] if corner in tie and (set(tie) - {corner}) <= set(part)]
            for tie in ties:
                lot[tie] |= lot[ties[0]]
                for fellow in lot[tie]:
                    lot[fellow] = lot[tie]
    return sorted({tuple(sorted(ties)) for ties in lot.values()})


class BlocksTest(Checking):

    def test_small_webs(self):
        for web in samples.small_webs() + samples.all_webs(5) + samples.unlike_webs(6):
            self.same(blocks(web), blocks_by_rings(web))

    def test_both_looks_agree(self):
        for web in samples.all_webs(5)[::3] + samples.unlike_webs(6):
            self.assertEqual(blocks_by_corners(web), blocks_by_rings(web), web)

    def test_large_webs(self):
        for web in samples.large_webs():
            self.same(blocks(web), blocks_by_corners(web))

    def test_known(self):
        self.same(blocks(("web", 4, ((0, 1), (1, 2), (1, 3), (2, 3)))), [((0, 1),), ((1, 2), (1, 3), (2, 3))])
        self.same(blocks(web=("web", 3, ())), [])
        self.same(blocks(("web", 1, ())), [])
        self.same(blocks(samples.full_web(11)), [samples.full_web(11)[2]])
        line = samples.web_with(20, [(k, k + 1) for k in range(19)])
        self.same(blocks(line), [((k, k + 1),) for k in range(19)])
        self.same(blocks(samples.apart([samples.full_web(3), samples.ring_web(4)])),
                  [((0, 1), (0, 2), (1, 2)), ((3, 4), (3, 6), (4, 5), (5, 6))])
        self.new_list(blocks, line)

    def test_webs_are_looked_at(self):
        for value in samples.no_webs():
            for call in (blocks, drawn):
                self.refused(InvalidWeb, {"value": value}, call, value)
                self.refused(InvalidWeb, {"value": value}, call, web=value)


class DrawnTest(Checking):

    def looked_at(self, web):
        """Either a map that is one by two looks, or a barred part that is one by two looks."""
        chart = drawn(web)
        if chart is None:
            part = barred_part(web)
            self.assertTrue(is_barred(web, part) and looks.looks_like_barred(web, part), web)
            return False
        self.assertTrue(looks.looks_like_map(chart), chart)
        self.yes(is_map(chart))
        self.same(chart[1], web)
        self.assertIsNone(barred_part(web))
        return True

    def test_small_webs(self):
        webs = samples.small_webs() + samples.all_webs(5) + samples.unlike_webs(6)
        webs = [web for web in webs if web[2] and samples.hangs_together(web)]
        told = [self.looked_at(web) for web in webs]
        # Of the joined webs of at most four corners each can be drawn, of those of five all but one; of the
        # 112 joined webs of six corners that are unlike 99 can be.
        self.assertEqual(told.count(False), 1 + 13)

    def test_large_webs(self):
        told = [self.looked_at(web) for web in samples.joined_large_webs()]
        self.assertGreater(told.count(True), 60)
        self.assertGreater(told.count(False), 60)

    def test_webs_that_can_be_drawn(self):
        webs = [samples.cube(), samples.wells_web(2, 18), samples.ring_web(20), samples.full_web(4), samples.full_web(2)]
        for seed in range(30):
            webs += [samples.triangulated(20, seed), samples.tree(2 + seed % 19, seed),
                     samples.less_ties(samples.triangulated(12, seed), seed % 9, seed)]
            webs += [samples.hung([samples.full_web(4), samples.triangulated(7, seed), samples.tree(4, seed)], seed)]
            webs += [samples.stretched(samples.triangulated(7, seed), 13, seed)]
        for web in [web for web in webs if samples.hangs_together(web)]:
            self.yes(self.looked_at(web))
        for seed in range(10):
            rings = rings_of(drawn(samples.triangulated(20, seed)))
            self.assertEqual({len(ring) for ring in rings}, {3})

    def test_webs_that_cant_be_drawn(self):
        webs = [FIVE, samples.wells_web(3, 3), samples.full_web(11), samples.wells_web(3, 17)]
        for seed in range(20):
            webs += [samples.more_ties(samples.triangulated(6 + seed % 15, seed), 1, seed)]
            webs += [samples.stretched(FIVE, seed % 16, seed), samples.stretched(samples.wells_web(3, 3), seed % 15, seed)]
            webs += [samples.hung([samples.full_web(4), FIVE, samples.ring_web(5)], seed)]
            webs += [samples.hung([samples.tree(6, seed), samples.wells_web(3, 3)], seed), samples.by_chance(20, 60, seed)]
        for web in [web for web in webs if samples.hangs_together(web)]:
            self.assertIsNone(drawn(web))
            self.no(self.looked_at(web))

    def test_a_block_comes_many_times_at_one_corner(self):
        web = samples.web_with(19, [tie for k in range(1, 19, 2) for tie in ((0, k), (0, k + 1), (k, k + 1))])
        self.yes(self.looked_at(web))
        fours = [pair for k in range(1, 19, 3) for pair in itertools.combinations((0, k, k + 1, k + 2), 2)]
        self.yes(self.looked_at(samples.web_with(19, fours)))

    def test_known(self):
        self.assertIsNone(drawn(FIVE))
        self.yes(is_map(drawn(web=("web", 5, FIVE[2][:9]))))
        self.same(drawn(("web", 2, ((0, 1),))), ("map", ("web", 2, ((0, 1),)), ((1,), (0,))))

    def test_joined_ones_alone(self):
        for web in samples.small_webs() + samples.large_webs():
            if not web[2] or not samples.hangs_together(web):
                self.refused(NotJoined, {}, drawn, web)
        for web in [("web", 1, ()), ("web", 20, ()), samples.apart([FIVE, FIVE]), samples.apart([FIVE, ("web", 1, ())])]:
            self.refused(NotJoined, {}, drawn, web)
            self.refused(NotJoined, {}, drawn, web=web)

    def test_again(self):
        for web in samples.joined_large_webs()[::6]:
            self.same(drawn(web), drawn(web))
