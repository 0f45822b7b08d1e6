"""Tests of websolids.webdeeds."""

import itertools

from tests import looks, samples, solidsamples
from tests.checking import Checking
from tests.solidlooks import from_least, steps_of
from websolids.drawing import drawn
from websolids.errors import (
    InvalidCorner, InvalidRing, InvalidRound, InvalidWeb, NoSolid, NotAcross, TooMany, UnlikeRounds,
)
from websolids.made import has_solid
from websolids.webdeeds import cut_corner, glued, raise_face, tie_across

FOUR, CUBE = samples.full_web(4), samples.cube()
NO_SOLID_WEBS = [samples.ring_web(5), samples.full_web(5), samples.wells_web(3, 3), samples.full_web(3),
                 samples.apart([FOUR, FOUR]), samples.web_with(5, [(0, 1), (1, 2), (0, 2)])]
CORNERS = {"what": "corners", "limit": 20}


def faces_of_web(web):
    """The faces of a web of a solid, as rings, each one way round."""
    return looks.rings_by_steps(drawn(web)[2])


def turnings(ring):
    """A ring from each of its corners on, either way round."""
    rows = [ring[at:] + ring[:at] for at in range(len(ring))]
    return rows + [row[::-1] for row in rows]


def beside_in_face(web, corner, one, other):
    """Whether two neighbours of a corner stand beside it in one face."""
    for ring in faces_of_web(web):
        steps = steps_of(ring)
        if (one, corner) in steps and (corner, other) in steps or (other, corner) in steps and (corner, one) in steps:
            return True
    return False


def looked_cut(web, corner):
    """The web with a corner cut, as [122] tells."""
    row = looks.beside(web, corner)
    names = dict(zip(row, [corner] + list(range(web[1], web[1] + len(row) - 1))))
    ties = [tie for tie in web[2] if corner not in tie] + [(other, names[other]) for other in row]
    for one, other in itertools.combinations(row, 2):
        if beside_in_face(web, corner, one, other):
            ties.append((names[one], names[other]))
    return samples.web_with(web[1] + len(row) - 1, ties)


def looked_glued(first, one_round, second, other_round):
    """Two webs put together, as [125] tells."""
    names, further = {}, first[1]
    for corner in range(second[1]):
        if corner in other_round:
            names[corner] = one_round[other_round.index(corner)]
        else:
            names[corner] = further
            further += 1
    return samples.web_with(further, list(first[2]) + [(names[a], names[b]) for a, b in second[2]])


def some_webs():
    """Webs of solids, small ones and others."""
    return solidsamples.small_solid_webs()[::6] + solidsamples.small_solid_webs()[-7:] + solidsamples.solid_webs()


class DeedsTest(Checking):

    def test_each_corner_is_cut(self):
        done = 0
        for web in some_webs():
            for corner in range(0, web[1], 1 + web[1] // 10):
                if web[1] + len(looks.beside(web, corner)) - 1 > 20:
                    self.refused(TooMany, CORNERS, cut_corner, web, corner)
                    continue
                other = cut_corner(web, corner)
                self.same(other, looked_cut(web, corner))
                self.assertTrue(solidsamples.is_solid_web(other))
                self.assertEqual(len(other[2]), len(web[2]) + len(looks.beside(web, corner)))
                done += 1
        self.assertGreater(done, 120)

    def test_each_face_is_raised(self):
        for web in some_webs():
            for ring in faces_of_web(web)[::1 + web[1] // 8]:
                least = from_least(ring)
                for row in (least, least[:1] + least[:0:-1]):
                    if web[1] == 20:
                        self.refused(TooMany, CORNERS, raise_face, web, row)
                        continue
                    other = raise_face(web, row)
                    self.same(other, samples.web_with(web[1] + 1, list(web[2]) + [(c, web[1]) for c in row]))
                    self.assertTrue(solidsamples.is_solid_web(other))
                for row in turnings(ring):
                    if row[0] != min(row):
                        self.refused(InvalidRing, {"value": row}, raise_face, web, row)

    def test_each_pair_is_tied_or_not(self):
        done = {True: 0, False: 0}
        for web in some_webs():
            faces = faces_of_web(web)
            pairs = list(itertools.product(range(web[1]), repeat=2))
            for one, other in pairs if web[1] < 9 else pairs[::11]:
                right = any([one in ring and other in ring for ring in faces])
                right = right and one != other and not looks.tied(web, one, other)
                done[right] += 1
                if right:
                    self.same(tie_across(web, one, other), samples.web_with(web[1], web[2] + ((one, other),)))
                else:
                    self.refused(NotAcross, {}, tie_across, web, one, other)
            for pair in [pair for pair in samples.pairs_of(web[1]) if any([set(pair) <= set(ring) for ring in faces])][::7]:
                if not looks.tied(web, *pair):
                    self.assertTrue(solidsamples.is_solid_web(tie_across(web, *pair)))
        self.assertGreater(min(done.values()), 200)

    def test_put_together(self):
        webs = list(solidsamples.small_solid_webs()[::9]) + [CUBE, solidsamples.prism(5), solidsamples.wheel(5)]
        done = {True: 0, False: 0, None: 0}
        for first, second in itertools.product(webs, repeat=2):
            rounds = [(one, other) for one in faces_of_web(first) for other in faces_of_web(second)]
            for one, other in rounds[::5]:
                for at, row in enumerate(turnings(other)):
                    told = turnings(one)[at * 5 % (2 * len(one))]
                    if len(one) != len(other):
                        self.refused(UnlikeRounds, {}, glued, first, told, second, row)
                    elif first[1] + second[1] - len(one) > 20:
                        self.refused(TooMany, CORNERS, glued, first, told, second, row)
                    else:
                        web = glued(first, told, second, row)
                        self.same(web, looked_glued(first, told, second, row))
                        if at % 4 == 0:
                            self.yes(has_solid(web))
                    done[len(one) == len(other)] += 1
        self.assertGreater(done[True], 200)
        self.assertGreater(done[False], 200)

    def test_many_corners(self):
        twelve, two = solidsamples.twelve_fives(), solidsamples.solid_webs()
        self.refused(TooMany, CORNERS, cut_corner, twelve, 0)
        self.refused(TooMany, CORNERS, raise_face, twelve, faces_of_web(twelve)[0])
        eighteen = [web for web in two if web[1] == 18][0]
        corner = [c for c in range(18) if len(looks.beside(eighteen, c)) == 3][0]
        self.same(cut_corner(eighteen, corner)[1], 20)
        for web in [web for web in two if web[1] == 19]:
            self.same(raise_face(web, from_least(faces_of_web(web)[0]))[1], 20)
            for corner in range(19):
                self.refused(TooMany, CORNERS, cut_corner, web, corner)
        ring = faces_of_web(twelve)[3]
        self.refused(TooMany, CORNERS, glued, twelve, ring, twelve, ring)
        wheel = solidsamples.wheel(5)
        self.refused(TooMany, CORNERS, glued, twelve, ring, wheel, (0, 1, 2, 3, 4))
        # 10 corners and 14 with a ring of four in common are 20; of three are 21.
        ten, fourteen = solidsamples.prism(5), solidsamples.prism(7)
        ring = [ring for ring in faces_of_web(ten) if len(ring) == 4][0]
        other = [ring for ring in faces_of_web(fourteen) if len(ring) == 4][0]
        self.same(glued(ten, ring, fourteen, other)[1], 20)
        full, more = samples.triangulated(10, 1), samples.triangulated(14, 1)
        self.refused(TooMany, CORNERS, glued, full, faces_of_web(full)[0], more, faces_of_web(more)[0])
        more = samples.triangulated(13, 1)
        web = glued(full, faces_of_web(full)[0], more, faces_of_web(more)[0])
        self.same((web[1], len(web[2])), (20, 54))
        self.refused(NotAcross, {}, tie_across, web, *[p for p in samples.pairs_of(20) if p not in web[2]][0])

    def test_known(self):
        six = cut_corner(corner=3, web=FOUR)
        self.same(six, ("web", 6, ((0, 1), (0, 2), (0, 3), (1, 2), (1, 4), (2, 5), (3, 4), (3, 5), (4, 5))))
        self.same(tie_across(other=0, one=4, web=six)[2][3], (0, 4))
        five = raise_face(ring=(0, 1, 2), web=FOUR)
        self.same(five, samples.web_with(5, list(FOUR[2]) + [(0, 4), (1, 4), (2, 4)]))
        self.same(glued(other_round=(3, 1, 2), second=FOUR, one_round=(2, 1, 0), first=FOUR), five)
        self.same(cut_corner(FOUR, 0)[2], ((0, 1), (0, 4), (0, 5), (1, 2), (1, 3), (2, 3), (2, 4), (3, 5), (4, 5)))
        self.same(cut_corner(solidsamples.wheel(4), 4)[1:], (8, looked_cut(solidsamples.wheel(4), 4)[2]))


class RefusalTest(Checking):

    def test_webs_are_looked_at(self):
        for value in samples.no_webs():
            self.refused(InvalidWeb, {"value": value}, cut_corner, value, 99)
            self.refused(InvalidWeb, {"value": value}, cut_corner, corner=None, web=value)
            self.refused(InvalidWeb, {"value": value}, raise_face, value, (0, 1, 2))
            self.refused(InvalidWeb, {"value": value}, raise_face, ring=None, web=value)
            self.refused(InvalidWeb, {"value": value}, tie_across, value, 0, 99)
            self.refused(InvalidWeb, {"value": value}, tie_across, one=None, other=None, web=value)
            self.refused(InvalidWeb, {"value": value}, glued, value, None, None, None)
            self.refused(InvalidWeb, {"value": value}, glued, FOUR, (0, 1, 2), value, None)
            self.refused(InvalidWeb, {"value": value}, glued, first=FOUR, second=value, one_round=(0, 1, 2), other_round=0)

    def test_corners_are_looked_at(self):
        for value in [v for v in samples.junk() if v not in (0, 1, 2) or isinstance(v, bool)] + [4, 99, "0", (0,), [0]]:
            for web in (FOUR, ("web", 4, ())):
                self.refused(InvalidCorner, {"value": value}, cut_corner, web, value)
                self.refused(InvalidCorner, {"value": value}, tie_across, web, value, 0)
                self.refused(InvalidCorner, {"value": value}, tie_across, web, value, value)
                self.refused(InvalidCorner, {"value": value}, tie_across, web, 0, value)
                self.refused(InvalidCorner, {"value": value}, tie_across, other=value, one=1, web=web)

    def test_rings_are_looked_at(self):
        for value in samples.junk() + [(0, 2, 1, 3, 0), (1, 0, 2), (0, 1, 4), (0, 1), [0, 1, 2], (0, 0, 1), (False, 1, 2)]:
            if value not in ((0, 1, 2),) or type(value) is not tuple:
                self.refused(InvalidRing, {"value": value}, raise_face, FOUR, value)
                self.refused(InvalidRing, {"value": value}, raise_face, ring=value, web=NO_SOLID_WEBS[0])
        # Rings of the web that are no faces are told behind NoSolid().
        for value in [(0, 1, 2, 3), (0, 3, 2, 1), (0, 1, 3, 2)]:
            self.refused(InvalidRing, {"value": value}, raise_face, FOUR, value)
        for value in [(0, 1, 3, 7, 6, 4), (0, 1, 5, 4, 6, 2)]:
            self.refused(InvalidRing, {"value": value}, raise_face, CUBE, value)
        self.refused(NoSolid, {}, raise_face, samples.ring_web(5), (0, 1, 2, 3, 4))
        self.refused(NoSolid, {}, raise_face, samples.full_web(5), (0, 1, 2, 3, 4))
        self.refused(NoSolid, {}, raise_face, samples.wells_web(3, 3), (0, 3, 1, 4))

    def test_rounds_are_looked_at(self):
        wrong = samples.junk() + [(0, 1), (0, 1, 4), [0, 1, 2], (0, 1, 1), (0, 1, 2, 0), (True, 2, 3), (0, 1, "2")]
        for value in wrong:
            if value != (0, 1, 2) or type(value) is not tuple:
                self.refused(InvalidRound, {"value": value}, glued, FOUR, value, None, None)
                self.refused(InvalidRound, {"value": value}, glued, FOUR, (0, 1, 2), FOUR, value)
                self.refused(InvalidRound, {"value": value}, glued, NO_SOLID_WEBS[2], (0, 3, 1, 4), FOUR, value)
        self.refused(InvalidRound, {"value": (0, 1, 2)}, glued, CUBE, (0, 1, 2), FOUR, (0, 1))
        self.refused(InvalidRound, {"value": (0, 3, 2)}, glued, samples.ring_web(5), (0, 3, 2), FOUR, (0, 1, 2))

    def test_rounds_that_go_round_no_face(self):
        long = (0, 1, 3, 7, 6, 4)
        self.refused(InvalidRound, {"value": (0, 1, 2, 3)}, glued, FOUR, (0, 1, 2, 3), CUBE, long)
        self.refused(InvalidRound, {"value": long}, glued, CUBE, long, FOUR, (0, 1, 2, 3))
        self.refused(InvalidRound, {"value": long}, glued, FOUR, (0, 1, 2), CUBE, long)
        self.refused(InvalidRound, {"value": (1, 0, 2)[::-1] + (3,)}, glued, FOUR, (0, 1, 2), FOUR, (2, 0, 1, 3))
        # The ring of three round which both faces were glued is no face any more.
        self.refused(InvalidRound, {"value": (2, 0, 1)}, glued, raise_face(FOUR, (0, 1, 2)), (2, 0, 1), FOUR, (0, 1, 2))

    def test_no_solid(self):
        for web in NO_SOLID_WEBS:
            self.refused(NoSolid, {}, cut_corner, web, 0)
            for one, other in ((0, 0), (0, 1), (0, 2)):
                self.refused(NoSolid, {}, tie_across, web, one, other)
            ring = [row for many in (3, 4, 5) for row in itertools.permutations(range(web[1]), many)
                    if all([looks.tied(web, a, b) for a, b in steps_of(row)])][0]
            self.refused(NoSolid, {}, raise_face, web, ring)
            self.refused(NoSolid, {}, glued, web, ring, FOUR, (0, 1, 2, 3))
            self.refused(NoSolid, {}, glued, FOUR, (0, 1, 2, 3), web, ring)
        big = samples.apart([solidsamples.prism(8), FOUR])
        self.refused(NoSolid, {}, cut_corner, big, 0)
        self.refused(NoSolid, {}, raise_face, big, (0, 1, 9, 8))

    def test_unlike_rounds_ahead_of_too_many(self):
        twelve, cube_ring = solidsamples.twelve_fives(), faces_of_web(CUBE)[0]
        self.refused(UnlikeRounds, {}, glued, twelve, faces_of_web(twelve)[0], CUBE, cube_ring)
        self.refused(UnlikeRounds, {}, glued, CUBE, cube_ring, FOUR, (0, 1, 2))
