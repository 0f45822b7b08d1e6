"""Tests of websolids.refusals."""

import itertools
import random

from tests import looks, samples, solidsamples
from tests.checking import Checking
from tests.test_barred import BENT, BENT_PART, FIVE, FIVE_PART, LONG, LONG_PART, WELLS, WELLS_PART
from websolids.barred import barred_part, is_barred
from websolids.drawing import drawn
from websolids.errors import InvalidWeb
from websolids.partings import is_parting, parting
from websolids.refusals import is_refusal, reason, refusal

SQUARE = samples.ring_web(4)
WORDS = (None, "form", "corners", "ties", "shared", "open")
PAPERS = [(SQUARE, ("parts", (0, 2), (1,))), (FIVE, FIVE_PART), (WELLS, WELLS_PART), (BENT, BENT_PART), (LONG, LONG_PART),
          (samples.tree(7, 1), parting(samples.tree(7, 1))), (("web", 2, ((0, 1),)), ("few", 2)), (("web", 1, ()), ("few", 1)),
          (samples.apart([SQUARE, SQUARE]), ("parts", (), (0, 1, 2, 3))), (samples.full_web(3), ("few", 3)),
          (samples.hung([SQUARE, FIVE], 3), parting(samples.hung([SQUARE, FIVE], 3))), (samples.full_web(9), LONG_PART),
          (samples.full_web(9), ("barred", "wells", (0, 1, 2, 3, 4, 5), ((0, 6, 3), (0, 7, 8, 4)) + WELLS[2][2:]))]


def is_row(value):
    """Whether any value is a tuple of COUNTS."""
    return type(value) is tuple and all([type(part) is int and part >= 0 for part in value])


def rises(row):
    """Whether a row is rising."""
    return all([one < other for one, other in zip(row, row[1:])])


def looked_at(web, value):
    """What [115] tells of any value."""
    if type(value) is not tuple or not value or type(value[0]) is not str:
        return "form"
    if value[0] == "few" and len(value) == 2:
        return None if type(value[1]) is int and value[1] == web[1] and web[1] < 4 else "form"
    if value[0] == "parts" and len(value) == 3:
        return look_parts(web, value[1], value[2])
    if value[0] == "barred" and len(value) == 4 and type(value[1]) is str and value[1] in ("five", "wells"):
        return look_barred(web, *value[1:])
    return "form"


def look_parts(web, cut, side):
    """What is wrong in a parting."""
    if not is_row(cut) or not is_row(side):
        return "form"
    corners = range(web[1])
    rest = [corner for corner in corners if corner not in cut + side]
    if not set(cut + side) <= set(corners) or not rises(cut) or not rises(side) or set(cut) & set(side):
        return "corners"
    if len(cut) > 2 or not side or not rest:
        return "corners"
    return "open" if any([looks.tied(web, one, other) for one in side for other in rest]) else None


def look_barred(web, kind, heads, ways):
    """What is wrong in a barred part."""
    if not is_row(heads) or type(ways) is not tuple or not all([is_row(way) for way in ways]):
        return "form"
    ends = list(itertools.combinations(heads, 2)) if kind == "five" else list(itertools.product(heads[:3], heads[3:]))
    right = rises(heads) if kind == "five" else rises(heads[:3]) and rises(heads[3:]) and heads[:1] < heads[3:4]
    if len(heads) != {"five": 5, "wells": 6}[kind] or not right or len(set(heads)) < len(heads):
        return "corners"
    told = [corner for way in ways for corner in way]
    if len(ways) != len(ends) or max(heads + tuple(told)) >= web[1] or not all([way for way in ways]):
        return "corners"
    if any([len(set(way)) < len(way) for way in ways]):
        return "corners"
    for way, pair in zip(ways, ends):
        if (way[0], way[-1]) != pair or not all([looks.tied(web, a, b) for a, b in zip(way, way[1:])]):
            return "ties"
    inner = [corner for way in ways for corner in way[1:-1]]
    return "shared" if set(inner) & set(heads) or len(set(inner)) < len(inner) else None


def bent(value, chance):
    """A paper bent in one place: a part left out, put in, exchanged, or another one."""
    if type(value) is not tuple or not value or chance.random() < 0.1:
        return chance.choice([0, 1, 2, 3, 5, 19, 20, -1, True, None, "x", (), (0,), (0, 1), [0], (1, 0), "five", "wells", "parts"])
    row, at = list(value), chance.randrange(len(value))
    way = chance.randrange(8)
    if way == 0:
        del row[at]
    elif way == 1:
        row.insert(at, chance.choice(row + [chance.randrange(9)]))
    elif way == 2:
        other = chance.randrange(len(row))
        row[at], row[other] = row[other], row[at]
    elif way == 3:
        row[at] = chance.randrange(9)
    else:
        row[at] = bent(row[at], chance)
    return tuple(row)


def renumbered(value, chance):
    """A paper with one number changed."""
    places = [at for at, part in enumerate(value) if type(part) is not str]
    at = chance.choice(places) if places else 0
    if not value or type(value[at]) is int:
        return value[:at] + (chance.randrange(9),) + value[at + 1:]
    return value[:at] + (renumbered(value[at], chance),) + value[at + 1:]


class ReasonTest(Checking):

    def told(self, web, value):
        want = looked_at(web, value)
        self.assertEqual(reason(web, value), want, (web, value))
        self.assertIs(is_refusal(web, value), want is None)
        return want

    def test_right_papers(self):
        for web, paper in PAPERS:
            self.assertIsNone(self.told(web, paper))
            self.assertIsNone(reason(value=paper, web=web))
            self.yes(is_refusal(value=paper, web=web))

    def test_papers_of_other_webs(self):
        webs = [web for web, _ in PAPERS] + list(solidsamples.solid_webs()[:6]) + [samples.full_web(8), ("web", 6, ())]
        for web in webs:
            for _, paper in PAPERS:
                self.told(web, paper)

    def test_papers_bent(self):
        found = {word: 0 for word in WORDS}
        for at, (web, paper) in enumerate(PAPERS):
            chance = random.Random(at)
            for _ in range(500):
                found[self.told(web, bent(paper, chance))] += 1
                found[self.told(web, renumbered(paper, chance))] += 1
        self.assertGreater(min(found.values()), 25, found)

    def test_all_partings(self):
        rows = [row for many in range(4) for row in itertools.permutations(range(5), many)] + [(0, 0), (1, 1, 2)]
        for web in [SQUARE, samples.full_web(4), samples.wells_web(1, 3), ("web", 3, ((0, 1),)), ("web", 1, ())]:
            for cut, side in itertools.product(rows, repeat=2):
                self.assertIs(self.told(web, ("parts", cut, side)) is None, is_parting(web, ("parts", cut, side)))

    def test_each_word(self):
        told = {
            "form": [("few", 4), ("few", 3), ("few",), ("few", "2"), ("few", True), ("few", 2, 2), ("few", (2,)), ("parts", (0, 2)),
                     ("parts", [0, 2], (1,)), ("parts", (0, 2), [1]), ("parts", (0, -2), (1,)), ("parts", (False, 2), (1,)),
                     ("parts", (0, 2), (True,)), ("parts", (0, 2), 1), ("parts", None, (1,)), ("parts", (0, 2), (1,), ()),
                     ("Parts", (0, 2), (1,)), ("cut", (0, 2), (1,)), ["parts", (0, 2), (1,)], ("barred", "six", (0, 1), ()),
                     ("barred", "five", [0, 1, 2, 3, 4], ()), ("barred", "five", (0, 1, 2, 3, 4), []), ("barred", "five", (0,)),
                     ("barred", "five", (0, 1, 2, 3, 4), (0,)), ("barred", "five", (0, 1, 2, 3, 4), ([0, 1],)),
                     ("barred", "wells", (0, 1, 2, 3, 4, True), ()), ("barred", None, (0,), ()), ("barred", "five", (0, "1"), ())],
            "corners": [("parts", (2, 0), (1,)), ("parts", (0, 4), (1,)), ("parts", (0, 2), (4,)), ("parts", (0, 2), ()),
                        ("parts", (0, 2), (1, 3)), ("parts", (0, 2), (1, 1)), ("parts", (0, 0), (1,)), ("parts", (0, 2), (2,)),
                        ("parts", (0, 1, 2), (3,)), ("parts", (), (0, 1, 2, 3)), ("parts", (0, 2), (3, 1)), ("parts", (), ()),
                        ("parts", (10 ** 50,), (1,)), ("barred", "five", (), ()), ("barred", "wells", (0, 1), ((),)),
                        ("barred", "five", (0, 1, 2, 3), ()), ("barred", "five", (0, 1, 2, 3, 4), ())],
            "open": [("parts", (0,), (1,)), ("parts", (), (1,)), ("parts", (0, 1), (2,)), ("parts", (1,), (0, 2))],
        }
        for word, values in told.items():
            for value in values:
                self.assertEqual(self.told(SQUARE, value), word, value)

    def test_each_word_of_barred_parts(self):
        for web, (_, kind, heads, ways) in [(FIVE, FIVE_PART), (WELLS, WELLS_PART), (samples.full_web(9), LONG_PART)]:
            told = {
                "corners": [(heads[::-1], ways), (heads[1:], ways), (heads + heads[-1:], ways), (heads, ways[1:]), (heads, ()),
                            (heads, ways + ways[-1:]), (heads, ((),) + ways[1:]), (heads, (ways[0] + ways[0],) + ways[1:]),
                            (heads, ((0, 20),) + ways[1:]), (heads[:-1] + (21,), ways), (heads, ((0, 0),) + ways[1:]),
                            (heads, (ways[0] + ways[0][:1],) + ways[1:])],
                "ties": [(heads, ways[::-1]), (heads, ways[1:] + ways[:1]), (heads, (ways[0][::-1],) + ways[1:]),
                         (heads, (ways[0][:1],) + ways[1:]), (heads, (ways[1],) + ways[1:])],
            }
            for word, values in told.items():
                for row, lot in values:
                    self.assertEqual(self.told(web, ("barred", kind, row, lot)), word, (row, lot))
        full = samples.full_web(8)
        for ways in [((0, 2, 1),) + FIVE[2][1:], ((0, 5, 1), (0, 5, 2)) + FIVE[2][2:], ((0, 5, 6, 1), (0, 7, 6, 2)) + FIVE[2][2:]]:
            self.assertEqual(self.told(full, ("barred", "five", (0, 1, 2, 3, 4), ways)), "shared")
        for lost in FIVE[2]:
            web = ("web", 5, tuple([tie for tie in FIVE[2] if tie != lost]))
            self.assertEqual(self.told(web, FIVE_PART), "ties")
        self.assertEqual(self.told(WELLS, ("barred", "wells", (3, 4, 5, 0, 1, 2), WELLS[2])), "corners")
        self.assertEqual(self.told(WELLS, ("barred", "wells", (0, 1, 3, 2, 4, 5), WELLS[2])), "ties")
        self.assertEqual(self.told(WELLS, ("barred", "wells", WELLS_PART[2], ((0, 3, 1, 4),) + WELLS[2][1:])), "ties")

    def test_the_first_word_is_told(self):
        # More than one thing is wrong: the word that stands first.
        self.same(reason(SQUARE, ("parts", (2, 0), (True,))), "form")
        self.same(reason(SQUARE, ("parts", (2, 0), (0,))), "corners")
        self.same(reason(FIVE, ("barred", "five", (4, 3, 2, 1, 0), ((0, 9), None))), "form")
        self.same(reason(FIVE, ("barred", "five", (0, 1, 2, 3, 4), ((1, 0), (0, 9)) + FIVE[2][2:])), "corners")
        self.same(reason(FIVE, ("barred", "five", (0, 1, 2, 3, 4), ((0, 2, 1), (2, 0)) + FIVE[2][2:])), "ties")

    def test_any_value(self):
        for web in (SQUARE, FIVE, ("web", 1, ()), ("web", 2, ())):
            for value in samples.junk() + samples.no_webs():
                self.told(web, value)
                for paper in [("few", value), ("parts", value, (1,)), ("parts", (0, 2), value), ("barred", value, (0,), ()),
                              ("barred", "five", value, FIVE[2]), ("barred", "wells", WELLS_PART[2], value),
                              ("barred", "five", FIVE_PART[2], FIVE[2][:9] + (value,)), (value, (0, 2), (1,)), (value,)]:
                    self.told(web, paper)

    def test_the_judges_agree(self):
        for at, (web, paper) in enumerate(PAPERS):
            chance = random.Random(at + 50)
            for _ in range(200):
                value = bent(paper, chance)
                word = value[0] if type(value) is tuple and value else None
                self.assertIs(is_parting(web, value), word == "parts" and reason(web, value) is None)
                self.assertIs(is_barred(web, value), word == "barred" and reason(web, value) is None)


class RefusalTest(Checking):

    def exactly_if(self, web):
        paper = refusal(web)
        solid = web[1] >= 4 and looks.fewest_in_cut(web) is None and barred_part(web) is None
        self.assertIs(paper is None, solid, web)
        if paper is not None:
            self.yes(is_refusal(web, paper))
            self.assertIsNone(looked_at(web, paper))
        return paper

    def test_small_webs(self):
        for web in samples.small_webs() + samples.all_webs(5) + samples.unlike_webs(6):
            paper = self.exactly_if(web)
            self.assertEqual(paper == ("few", web[1]), web[1] < 4)
            if paper is None:
                self.assertIsNotNone(drawn(web))
        self.assertEqual(len([web for web in samples.unlike_webs(6) if refusal(web) is None]), 7)
        self.assertEqual([web for web in samples.all_webs(4) if refusal(web) is None], [samples.full_web(4)])

    def test_large_webs(self):
        words = {None: 0, "parts": 0, "barred": 0}
        for web in samples.large_webs() + list(solidsamples.solid_webs()):
            paper = self.exactly_if(web)
            words[None if paper is None else paper[0]] += 1
        for web in solidsamples.solid_webs():
            for one, other in [pair for pair in samples.pairs_of(web[1]) if pair not in web[2]][::17]:
                if len(web[2]) < 60:
                    paper = self.exactly_if(samples.web_with(web[1], web[2] + ((one, other),)))
                    words[None if paper is None else paper[0]] += 1
        self.assertGreater(min(words.values()), 40, words)

    def test_no_paper_for_a_web_of_a_solid(self):
        for web in solidsamples.small_solid_webs()[:12]:
            self.assertIsNone(refusal(web))
            chance = random.Random(1)
            for _, paper in PAPERS:
                for _ in range(40):
                    self.no(is_refusal(web, bent(paper, chance)))
            for cut, side in itertools.product(range(1 << web[1]), repeat=2):
                rows = [tuple([c for c in range(web[1]) if mark >> c & 1]) for mark in (cut, side)]
                self.no(is_refusal(web, ("parts",) + tuple(rows)))

    def test_known(self):
        self.same(refusal(web=("web", 2, ((0, 1),))), ("few", 2))
        self.same(refusal(("web", 1, ())), ("few", 1))
        self.same(refusal(samples.full_web(3)), ("few", 3))
        self.assertIsNone(refusal(samples.full_web(4)))
        self.assertIsNone(refusal(solidsamples.twelve_fives()))
        self.same(refusal(FIVE), FIVE_PART)
        self.same(refusal(WELLS), WELLS_PART)
        self.same(refusal(SQUARE)[:2], ("parts", (0, 2)))

    def test_again(self):
        for web in samples.large_webs()[::9]:
            self.same(refusal(web), refusal(web))

    def test_webs_are_looked_at(self):
        for value in samples.no_webs():
            self.refused(InvalidWeb, {"value": value}, refusal, value)
            self.refused(InvalidWeb, {"value": value}, refusal, web=value)
            for call in (is_refusal, reason):
                self.refused(InvalidWeb, {"value": value}, call, value, ("few", 2))
                self.refused(InvalidWeb, {"value": value}, call, value=None, web=value)
