"""Tests of websolids.made."""

import random
from fractions import Fraction

from tests import samples, solidsamples
from tests.checking import Checking
from tests.solidlooks import exact, looks_like_solid, spoilt, ties_of
from tests.solidsamples import told
from tests.test_refusals import PAPERS, looked_at
from tests.test_solids import CUBE, NO_SOLIDS, TENT
from websolids.errors import InvalidWeb
from websolids.made import has_solid, is_made, solid_of
from websolids.maps import rings_of
from websolids.drawing import drawn
from websolids.refusals import is_refusal, refusal
from websolids.solids import map_of, web_of
from websolids.webs import renamed

FOUR = samples.full_web(4)
TWENTY = solidsamples.twelve_fives()


def numbers_in(value):
    """All INTEGERS in a value."""
    return [value] if type(value) is int else [n for part in value if type(part) is not str for n in numbers_in(part)]


def longest_in(value):
    """How long the longest tuple or list in a value is."""
    if type(value) not in (tuple, list):
        return 0
    return max([len(value)] + [longest_in(part) for part in value])


def bent(solid, seed):
    """The solid with one number of a corner changed by a little."""
    chance = random.Random(seed)
    at, place = chance.randrange(len(solid[1])), chance.randrange(3)
    point = exact(solid[1][at])
    point[place] += Fraction(chance.choice([-1, 1]), 10 ** chance.randrange(0, 20))
    return ("solid", solid[1][:at] + (told(point),) + solid[1][at + 1:], solid[2])


class SolidOfTest(Checking):

    def just_one(self, web):
        """A right solid or a right paper is told, and no more; whether it is a solid."""
        value = solid_of(web)
        if value[0] == "solid":
            self.assertTrue(looks_like_solid(value), web)
            self.assertEqual((len(value[1]), ties_of(value)), web[1:])
        else:
            self.assertIsNone(looked_at(web, value), web)
        self.assertIs(is_made(web, value), value[0] == "solid")
        self.assertIs(is_refusal(web, value), value[0] != "solid")
        self.assertIs(has_solid(web), value[0] == "solid")
        self.assertIs(refusal(web) is None, value[0] == "solid")
        self.assertLess(max([abs(number) for number in numbers_in(value)]), 10 ** 400)
        self.assertLessEqual(longest_in(value), 4000)
        return value[0] == "solid"

    def test_small_webs(self):
        for many, wanted in [(1, 0), (2, 0), (3, 0), (4, 1), (5, 25)]:
            # Of five corners: 10 webs with all ties but one, 15 wheels.
            self.assertEqual(len([web for web in samples.all_webs(many) if self.just_one(web)]), wanted)
        self.assertEqual(len([web for web in samples.unlike_webs(6) if self.just_one(web)]), 7)

    def test_webs_of_solids(self):
        webs = solidsamples.solid_webs()
        for web in webs:
            self.assertTrue(self.just_one(web), web)
        self.assertTrue([web for web in webs if (web[1], len(web[2])) == (20, 54)])
        self.assertTrue([web for web in webs if (web[1], len(web[2])) == (20, 30)])
        self.assertTrue([web for web in webs if len(web[2]) - web[1] + 2 > 20])
        self.assertTrue([web for web in webs if min([len(ring) for ring in rings_of(drawn(web))]) > 3])

    def test_a_tie_less_a_tie_more(self):
        found = {True: 0, False: 0}
        for web in solidsamples.solid_webs()[::2]:
            for lost in web[2][::9]:
                found[self.just_one(("web", web[1], tuple([tie for tie in web[2] if tie != lost])))] += 1
            free = [pair for pair in samples.pairs_of(web[1]) if pair not in web[2]]
            for pair in free[::31] if len(web[2]) < 60 else []:
                found[self.just_one(samples.web_with(web[1], web[2] + (pair,)))] += 1
        self.assertGreater(min(found.values()), 20, found)

    def test_other_webs(self):
        for web in samples.large_webs() + [web for web, _ in PAPERS] + [("web", many, ()) for many in range(1, 21)]:
            self.just_one(web)
        for web in [samples.apart([FOUR, FOUR]), samples.hung([FOUR, samples.cube()], 1), samples.full_web(11),
                    samples.ring_web(20), samples.wells_web(3, 17), samples.tree(20, 3)]:
            self.assertFalse(self.just_one(web))
        for seed in range(60):
            many = 6 + seed % 15
            self.just_one(samples.by_chance(many, min(60, many * (many - 1) // 2, 2 * many + seed % 11), seed))

    def test_long_numbers_stay_short(self):
        # The webs in which corners hang in a long row have the longest numbers.
        for many in (12, 16, 20):
            ties = [(a, b) for a in range(many) for b in range(a + 1, min(a + 4, many))]
            self.assertTrue(self.just_one(samples.web_with(many, ties)))
        for rim in (8, 9, 10):
            self.assertTrue(self.just_one(samples.mixed(solidsamples.prism(rim), rim)))
        for seed in range(6):
            self.assertTrue(self.just_one(samples.triangulated(20, seed + 90)))

    def test_one_map_or_its_mirror(self):
        for web in solidsamples.solid_webs()[::3]:
            rounds = map_of(solid_of(web))[2]
            mirrored = tuple([row[:1] + row[:0:-1] for row in rounds])
            self.assertIn(drawn(web)[2], (rounds, mirrored))

    def test_known(self):
        self.same(solid_of(("web", 2, ((0, 1),))), ("few", 2))
        self.same(solid_of(web=("web", 1, ())), ("few", 1))
        self.same(solid_of(samples.ring_web(4))[0], "parts")
        self.same(solid_of(samples.full_web(5))[:2], ("barred", "five"))
        self.same(solid_of(samples.wells_web(3, 3))[:2], ("barred", "wells"))
        self.yes(has_solid(web=TWENTY))
        self.no(has_solid(web=("web", 20, ())))

    def test_again(self):
        for web in list(solidsamples.solid_webs()[::5]) + samples.large_webs()[::9]:
            self.same(solid_of(web), solid_of(web))

    def test_webs_are_looked_at(self):
        for value in samples.no_webs():
            for call in (solid_of, has_solid):
                self.refused(InvalidWeb, {"value": value}, call, value)
                self.refused(InvalidWeb, {"value": value}, call, web=value)
            self.refused(InvalidWeb, {"value": value}, is_made, value, TENT)
            self.refused(InvalidWeb, {"value": value}, is_made, value=None, web=value)


class IsMadeTest(Checking):

    def told(self, web, value):
        wanted = looks_like_solid(value) and (len(value[1]), ties_of(value)) == web[1:]
        self.assertIs(is_made(web, value), wanted, (web, value))
        return wanted

    def test_solids_and_spoilt_ones(self):
        for solid in solidsamples.solids():
            web = web_of(solid)
            self.assertTrue(self.told(web, solid))
            self.yes(is_made(value=solid, web=web))
            for value in spoilt(solid):
                self.told(web, value)

    def test_mirrored_and_bent(self):
        found = {True: 0, False: 0}
        for at, solid in enumerate(solidsamples.solids()):
            web = web_of(solid)
            corners = tuple([((-x[0], x[1]), y, z) for x, y, z in solid[1]])
            self.no(is_made(web, ("solid", corners, solid[2])))
            faces = tuple(sorted([ring[:1] + ring[:0:-1] for ring in solid[2]]))
            self.assertTrue(self.told(web, ("solid", corners, faces)))
            for seed in range(6):
                found[self.told(web, bent(solid, seed))] += 1
        self.assertGreater(min(found.values()), 20, found)

    def test_other_webs(self):
        for solid in (TENT, CUBE) + solidsamples.solids()[3:12]:
            web = web_of(solid)
            names = list(range(1, web[1])) + [0]
            for other in [renamed(web, names), ("web", web[1], web[2][1:]), ("web", min(20, web[1] + 1), web[2]), FOUR]:
                self.told(other, solid)
            for other in solidsamples.solid_webs()[:12]:
                self.told(other, solid)
        self.no(is_made(("web", 5, FOUR[2]), TENT))
        self.no(is_made(FOUR, CUBE))
        self.yes(is_made(FOUR, TENT))

    def test_any_value(self):
        for web in (FOUR, samples.cube(), ("web", 1, ()), ("web", 20, ())):
            for value in NO_SOLIDS + samples.no_webs():
                self.no(is_made(web, value), value)
        self.no(is_made(FOUR, list(TENT)))
        self.no(is_made(FOUR, ("solid", list(TENT[1]), TENT[2])))
        self.no(is_made(FOUR, ("solid", TENT[1], tuple([list(ring) for ring in TENT[2]]))))
