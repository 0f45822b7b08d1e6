"""Tests of websolids.barred."""

import itertools

from tests import looks, samples
from tests.checking import Checking
from websolids.barred import barred_part, can_be_drawn, is_barred
from websolids.drawing import drawn
from websolids.errors import InvalidWeb

FIVE = samples.full_web(5)
FIVE_PART = ("barred", "five", (0, 1, 2, 3, 4), FIVE[2])
WELLS = samples.wells_web(3, 3)
WELLS_PART = ("barred", "wells", (0, 1, 2, 3, 4, 5), WELLS[2])
# Three houses and three wells, one of the ways by a further corner.
BENT = ("web", 7, ((0, 3), (0, 4), (0, 5), (1, 3), (1, 4), (1, 5), (2, 3), (2, 4), (2, 6), (5, 6)))
BENT_PART = ("barred", "wells", (0, 1, 2, 3, 4, 5), BENT[2][:8] + ((2, 6, 5),))
# Five heads, two of the ways by further corners, and ties that no way needs.
LONG = samples.web_with(9, FIVE[2][1:9] + ((0, 5), (5, 6), (6, 1), (3, 7), (7, 4), (5, 7), (7, 8)))
LONG_PART = ("barred", "five", (0, 1, 2, 3, 4), ((0, 5, 6, 1),) + FIVE[2][1:9] + ((3, 7, 4),))


class BarredPartTest(Checking):

    def looked_at(self, web):
        part = barred_part(web)
        self.assertIs(can_be_drawn(web), part is None, web)
        if part is not None:
            self.yes(is_barred(web, part))
            self.assertTrue(looks.looks_like_barred(web, part), part)
        return part is None

    def each_lot_drawn(self, web):
        """Whether there is a map of each part of the web that has ties, all right by the test's own look."""
        for lot in looks.lots_without(web, ()):
            ties = [(lot.index(a), lot.index(b)) for a, b in web[2] if a in lot]
            if ties and not looks.looks_like_map(drawn(samples.web_with(len(lot), ties))):
                return False
        return True

    def test_small_webs(self):
        for web in samples.small_webs():
            self.yes(self.looked_at(web))
        told = {}
        for web in samples.all_webs(5):
            told[web] = self.looked_at(web)
            self.assertIs(self.each_lot_drawn(web), told[web])
        self.assertEqual([web for web in told if not told[web]], [FIVE])

    def test_webs_of_six(self):
        told = [(self.looked_at(web), self.each_lot_drawn(web)) for web in samples.unlike_webs(6)]
        self.assertTrue(all([one is other for one, other in told]))
        self.assertEqual(told.count((False, False)), 14)

    def test_large_webs(self):
        told = []
        for web in samples.large_webs():
            told.append(self.looked_at(web))
            self.assertIs(self.each_lot_drawn(web), told[-1])
        self.assertGreater(told.count(True), 60)
        self.assertGreater(told.count(False), 60)

    def test_parts_that_are_known(self):
        self.same(barred_part(FIVE), FIVE_PART)
        self.same(barred_part(web=WELLS), WELLS_PART)
        self.same(barred_part(BENT), BENT_PART)
        self.assertIsNone(barred_part(("web", 6, FIVE[2][:9] + ((3, 5),))))
        for seed in range(20):
            for web, word in [(FIVE, "five"), (WELLS, "wells")]:
                part = barred_part(samples.stretched(web, seed % 11, seed))
                self.assertEqual(part[1], word)
        self.assertEqual(barred_part(samples.full_web(11))[0], "barred")

    def test_webs_that_are_not_joined(self):
        self.yes(can_be_drawn(("web", 3, ())))
        self.yes(can_be_drawn(web=("web", 1, ())))
        self.yes(can_be_drawn(("web", 20, ())))
        self.yes(can_be_drawn(("web", 20, ((3, 9),))))
        self.no(can_be_drawn(samples.apart([("web", 1, ()), FIVE, samples.ring_web(3)])))
        self.no(can_be_drawn(samples.apart([samples.cube(), WELLS, ("web", 2, ())])))
        self.yes(can_be_drawn(samples.apart([samples.triangulated(9, 1), samples.cube(), ("web", 2, ())])))
        part = barred_part(samples.apart([("web", 1, ()), FIVE]))
        self.same(part, ("barred", "five", (1, 2, 3, 4, 5), tuple([(a + 1, b + 1) for a, b in FIVE[2]])))

    def test_a_tie_more_than_there_can_be(self):
        for many in range(5, 21):
            web = samples.triangulated(many, many)
            self.yes(can_be_drawn(web))
            self.assertIsNone(barred_part(web))
            self.no(can_be_drawn(samples.more_ties(web, 1, many)))

    def test_again(self):
        for web in samples.large_webs()[::9]:
            self.same(barred_part(web), barred_part(web))

    def test_webs_are_looked_at(self):
        for value in samples.no_webs():
            for call in (barred_part, can_be_drawn):
                self.refused(InvalidWeb, {"value": value}, call, value)
                self.refused(InvalidWeb, {"value": value}, call, web=value)
            self.refused(InvalidWeb, {"value": value}, is_barred, value, FIVE_PART)
            self.refused(InvalidWeb, {"value": value}, is_barred, value=None, web=value)


class IsBarredTest(Checking):

    def test_parts(self):
        for web, part in [(FIVE, FIVE_PART), (WELLS, WELLS_PART), (BENT, BENT_PART), (LONG, LONG_PART),
                          (samples.full_web(6), WELLS_PART), (samples.full_web(9), FIVE_PART)]:
            self.yes(is_barred(web, part))
            self.yes(is_barred(value=part, web=web))
            self.assertTrue(looks.looks_like_barred(web, part))

    def test_heads_in_another_sequence(self):
        web = samples.full_web(6)
        for heads in itertools.permutations(range(6)):
            ways = tuple([(house, well) for house in heads[:3] for well in heads[3:]])
            part = ("barred", "wells", heads, ways)
            right = heads[0] < heads[1] < heads[2] and heads[3] < heads[4] < heads[5] and heads[0] < heads[3]
            self.assertIs(is_barred(web, part), right, heads)
            self.assertIs(is_barred(web, ("barred", "wells", heads, WELLS[2])), heads == (0, 1, 2, 3, 4, 5), heads)
        for heads in itertools.permutations(range(6), 5):
            part = ("barred", "five", heads, tuple(itertools.combinations(heads, 2)))
            self.assertIs(is_barred(web, part), list(heads) == sorted(heads), heads)
        for heads in itertools.product(range(3), repeat=5):
            self.no(is_barred(web, ("barred", "five", heads, tuple(itertools.combinations(heads, 2)))))

    def test_heads_that_are_alike(self):
        # A way of one corner leads from a head to itself: so it is the heads alone that tell that this is none.
        web = samples.full_web(6)
        for kind, many in [("five", 5), ("wells", 6)]:
            for heads in itertools.product(range(5), repeat=many):
                if kind == "five":
                    ends = list(itertools.combinations(heads, 2))
                else:
                    ends = list(itertools.product(heads[:3], heads[3:]))
                ways = tuple([(one,) if one == other else (one, other) for one, other in ends])
                if len(set(heads)) < many and list(heads[:3]) == sorted(heads[:3]):
                    self.no(is_barred(web, ("barred", kind, heads, ways)), heads)

    def test_ways_exchanged_left_out_doubled_turned(self):
        for web, part in [(FIVE, FIVE_PART), (WELLS, WELLS_PART), (BENT, BENT_PART), (LONG, LONG_PART)]:
            word, kind, heads, ways = part
            for one, other in itertools.combinations(range(len(ways)), 2):
                row = list(ways)
                row[one], row[other] = row[other], row[one]
                self.no(is_barred(web, (word, kind, heads, tuple(row))))
                row[one] = row[other]
                self.no(is_barred(web, (word, kind, heads, tuple(row))))
            for at, way in enumerate(ways):
                for value in self.spoilt_ways(way):
                    self.no(is_barred(web, (word, kind, heads, ways[:at] + (value,) + ways[at + 1:])), value)
                self.no(is_barred(web, (word, kind, heads, ways[:at] + ways[at + 1:])))
                self.no(is_barred(web, (word, kind, heads, ways[:at] + ways[at:at + 1] + ways[at:])))
            self.no(is_barred(web, (word, kind, heads, ways[::-1])))

    def spoilt_ways(self, way):
        wrong = [way[::-1], list(way), way[:-1], way[1:], way[:1], (), None, way[0], way + way[-1:], way + way[:1],
                 way[:1] + way, (way,), str(way), tuple([str(corner) for corner in way]), set(way), way[:-1] + (-1,),
                 way[:-1] + (20,), way[:-1] + (None,), way + (8,), (way[0], way[0]), dict(enumerate(way))]
        if set(way) & {0, 1}:
            wrong.append(tuple([bool(corner) if corner < 2 else corner for corner in way]))
        return wrong

    def test_a_way_by_another_head(self):
        ways = ((0, 2, 1),) + FIVE[2][1:]
        self.no(is_barred(FIVE, ("barred", "five", (0, 1, 2, 3, 4), ways)))
        web = samples.full_web(7)
        self.no(is_barred(web, ("barred", "wells", (0, 1, 2, 3, 4, 5), ((0, 1, 3),) + WELLS[2][1:])))

    def test_ways_that_share_a_corner(self):
        web = samples.full_web(8)
        ways = list(FIVE[2])
        ways[0], ways[9] = (0, 5, 1), (3, 6, 4)
        self.yes(is_barred(web, ("barred", "five", (0, 1, 2, 3, 4), tuple(ways))))
        ways[9] = (3, 5, 4)
        self.no(is_barred(web, ("barred", "five", (0, 1, 2, 3, 4), tuple(ways))))
        ways[9] = (3, 6, 5, 4)
        self.no(is_barred(web, ("barred", "five", (0, 1, 2, 3, 4), tuple(ways))))
        ways[9] = (3, 6, 7, 4)
        self.yes(is_barred(web, ("barred", "five", (0, 1, 2, 3, 4), tuple(ways))))
        ways = list(WELLS[2])
        ways[2], ways[7] = (0, 6, 5), (2, 6, 4)
        self.no(is_barred(web, ("barred", "wells", (0, 1, 2, 3, 4, 5), tuple(ways))))
        ways[7] = (2, 7, 4)
        self.yes(is_barred(web, ("barred", "wells", (0, 1, 2, 3, 4, 5), tuple(ways))))
        ways[7] = (2, 7, 7, 4)
        self.no(is_barred(web, ("barred", "wells", (0, 1, 2, 3, 4, 5), tuple(ways))))

    def test_a_tie_that_is_not_there(self):
        for lost in FIVE[2]:
            self.no(is_barred(("web", 5, tuple([tie for tie in FIVE[2] if tie != lost])), FIVE_PART))
        for lost in WELLS[2]:
            self.no(is_barred(("web", 6, tuple([tie for tie in WELLS[2] if tie != lost])), WELLS_PART))
        self.no(is_barred(("web", 4, ()), FIVE_PART))
        self.no(is_barred(BENT, WELLS_PART))
        self.no(is_barred(WELLS, BENT_PART))

    def test_spoilt_papers(self):
        for web, part in [(FIVE, FIVE_PART), (WELLS, WELLS_PART), (BENT, BENT_PART), (LONG, LONG_PART)]:
            word, kind, heads, ways = part
            other = "wells" if kind == "five" else "five"
            for value in [list(part), part[:3], part + ((),), part[1:], (part,), ("Barred",) + part[1:],
                          (b"barred",) + part[1:], (None,) + part[1:], (["barred"],) + part[1:], (word, other, heads, ways),
                          (word, "six", heads, ways), (word, None, heads, ways), (word, kind.encode(), heads, ways),
                          (word, [kind], heads, ways), (word, kind, list(heads), ways), (word, kind, heads, list(ways)),
                          (word, kind, heads[:-1], ways), (word, kind, heads + (6,), ways), (word, kind, ways, heads),
                          (word, kind, heads[::-1], ways), (word, kind, heads[:-1] + heads[:1], ways),
                          (word, kind, (False, True) + heads[2:], ways), (word, kind, heads[:-1] + (None,), ways),
                          (word, kind, heads[:-1] + ("5",), ways), (word, kind, set(heads), ways), (word, kind, None, ways),
                          (word, kind, heads, None), (word, kind, heads, ()), (word, kind, heads, set(ways)),
                          (word, kind, heads, dict.fromkeys(ways)), (word, kind, "01234", ways), (word, kind, (), ()),
                          (word, kind, heads[:-1] + (20,), ways), (word, kind, (-1,) + heads[1:], ways)]:
                self.no(is_barred(web, value), value)

    def test_anything_else(self):
        for web in (FIVE, WELLS, samples.full_web(8), ("web", 1, ())):
            for value in samples.junk():
                self.no(is_barred(web, value), value)
                self.no(is_barred(web, ("barred", "five", value, FIVE[2])), value)
                self.no(is_barred(web, ("barred", "five", (0, 1, 2, 3, 4), value)), value)
                self.no(is_barred(web, ("barred", "wells", value, WELLS[2])), value)
                self.no(is_barred(web, ("barred", "wells", (0, 1, 2, 3, 4, 5), value)), value)
                self.no(is_barred(web, ("barred", value, (0, 1, 2, 3, 4), FIVE[2])), value)
