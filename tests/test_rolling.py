"""Tests of websolids.rolling."""

import random
from fractions import Fraction

from tests import samples, solidsamples
from tests.checking import Checking
from tests.solidlooks import cross, exact, less, looks_like_solid, product, steps_of
from tests.solidsamples import told
from tests.test_solids import CUBE, NO_SOLIDS, TENT
from tests.test_weights import looked_middle, looked_outward
from websolids.errors import InvalidPosition, InvalidSolid
from websolids.hulls import hull
from websolids.rolling import course, rest_faces, rests_on, rolls_to
from websolids.soliddeeds import mirrored, moved
from websolids.weights import height_square

O, I, TWO = (0, 1), (1, 1), (2, 1)
FACES = ((0, 1, 3), (0, 2, 1), (0, 3, 2), (1, 2, 3))
BIG = ("solid", ((O, O, O), (TWO, O, O), (O, TWO, O), (O, O, TWO)), FACES)
LEAN = ("solid", ((O, O, O), (I, O, O), (O, I, O), ((9, 1), O, I)), FACES)
AT_FACES = (rests_on, rolls_to, course)


def looked(solid, position):
    """Whereto a solid rolls from a face, as [144] tells: a position, "edge" or None."""
    middle, upright = looked_middle(solid), looked_outward(solid, position)
    start = exact(solid[1][solid[2][position][0]])
    part = (product(upright, start) - product(upright, middle)) / product(upright, upright)
    foot = [m + part * n for m, n in zip(middle, upright)]
    on_tie = False
    for one, behind in steps_of(solid[2][position]):
        p, q = exact(solid[1][one]), exact(solid[1][behind])
        turned = product(upright, cross(less(q, p), less(foot, q)))
        if turned < 0:
            return [at for at, ring in enumerate(solid[2]) if (behind, one) in steps_of(ring)][0]
        on_tie = on_tie or turned == 0
    return "edge" if on_tie else None


def leaning(many, seed, high):
    """Towers of a ring of corners below and one above that is far aside."""
    chance, found = random.Random(seed), {}
    while len(found) < many:
        part = Fraction(chance.randrange(-40, 40), 20)
        found[part] = told(((1 - part * part) / (1 + part * part), 2 * part / (1 + part * part), 0))
    far = [chance.randrange(-9, 9), chance.randrange(-9, 9)]
    top = [told([p + q for p, q in zip(exact(point), far + [high])]) for point in found.values()]
    return hull(list(found.values()) + top)


def slabs():
    """Slanted boxes whose middle stands just over a tie of the bottom, or nearly."""
    found = []
    for part in (Fraction(1), Fraction(99, 100), Fraction(101, 100), Fraction(10 ** 30 + 1, 10 ** 30)):
        matrix = (told((1, 0, part)), told((0, 1, 0)), told((0, 0, 1)))
        found += [moved(CUBE, matrix, told((0, 0, 0)))]
    return found


def some_solids():
    """Solids that roll over several faces, that rest on each, that stand on an edge."""
    made = [leaning(3 + seed % 5, seed, 1 + seed % 4) for seed in range(12)]
    return list(solidsamples.solids()) + made + slabs() + [BIG, LEAN, mirrored(LEAN),
                                                           CUBE] + [mirrored(solid) for solid in slabs()]


class RollingTest(Checking):

    def test_from_each_face(self):
        found = {"rest": 0, "edge": 0, "roll": 0}
        longest = 0
        for solid in some_solids():
            many = len(solid[2])
            stands = [looked(solid, at) for at in range(many)]
            self.same([rolls_to(solid, at) for at in range(many)], stands)
            for at, stand in enumerate(stands):
                self.assertIs(rests_on(solid, at), stand is None)
                row = [at]
                while type(stands[row[-1]]) is int:
                    row.append(stands[row[-1]])
                self.same(course(solid, at), (row, "rest" if stands[row[-1]] is None else "edge"))
                longest = max(longest, len(row))
                found["rest" if stand is None else "edge" if stand == "edge" else "roll"] += 1
            self.same(rest_faces(solid), [at for at in range(many) if stands[at] is None])
        self.assertGreater(min(found.values()), 3, found)
        self.assertGreater(longest, 4)

    def test_the_height_falls(self):
        for solid in some_solids()[::2]:
            self.assertGreater(len(rest_faces(solid)), 0)
            heights = [Fraction(*height_square(solid, at)) for at in range(len(solid[2]))]
            self.assertIn(heights.index(min(heights)), rest_faces(solid))
            for at in range(len(solid[2])):
                row, _ = course(solid, at)
                self.assertEqual(len(set(row)), len(row))
                for one, other in zip(row, row[1:]):
                    self.assertLess(heights[other], heights[one])

    def test_moved_and_mirrored(self):
        for solid in some_solids()[::3]:
            other = moved(solid, (told((3, 0, 0)), told((0, 0, -3)), told((0, 3, 0))), told((1, 2, 3)))
            self.assertTrue(looks_like_solid(other))
            self.same([rolls_to(other, at) for at in range(len(solid[2]))],
                      [rolls_to(solid, at) for at in range(len(solid[2]))])
            turned = mirrored(solid)
            places = [turned[2].index(ring[:1] + ring[:0:-1]) for ring in solid[2]]
            self.same(rest_faces(turned), sorted([places[at] for at in rest_faces(solid)]))

    def test_known(self):
        self.same([rests_on(BIG, 1), rest_faces(BIG), rolls_to(BIG, 3), course(BIG, 2)],
                  [True, [0, 1, 2, 3], None, ([2], "rest")])
        self.same([rests_on(LEAN, 1), rolls_to(LEAN, 1)], [False, 3])
        self.same(rests_on(position=1, solid=LEAN), False)
        self.same(rolls_to(position=1, solid=LEAN), 3)
        self.same(course(position=2, solid=BIG), ([2], "rest"))
        self.same(rest_faces(solid=CUBE), [0, 1, 2, 3, 4, 5])
        self.same([course(CUBE, at) for at in range(6)], [([at], "rest") for at in range(6)])

    def test_edges(self):
        straight, less_slanted, more_slanted, hardly = slabs()
        bottom = [at for at, ring in enumerate(straight[2]) if all([straight[1][corner][2] == O for corner in ring])][0]
        self.same(rolls_to(straight, bottom), "edge")
        self.same(course(straight, bottom), ([bottom], "edge"))
        self.no(rests_on(straight, bottom))
        self.assertNotIn(bottom, rest_faces(straight))
        self.yes(rests_on(less_slanted, bottom))
        self.assertIs(type(rolls_to(more_slanted, bottom)), int)
        self.assertIs(type(rolls_to(hardly, bottom)), int)

    def test_a_tie_beyond_ahead_of_a_tie_on(self):
        # The foot lies on one tie's line and beyond another tie: it rolls.
        found = 0
        for x in range(-8, 9):
            for y in range(-8, 9):
                solid = ("solid", BIG[1][:3] + (told((x, y, 2)),), FACES)
                stand = looked(solid, 1)
                self.same(rolls_to(solid, 1), stand)
                quarter = [Fraction(2 + x, 4), Fraction(2 + y, 4)]
                on_line = 0 in quarter or sum(quarter) == 2
                found += on_line and type(stand) is int
        self.assertGreater(found, 5)

    def test_new_lists(self):
        self.new_list(rest_faces, CUBE)
        first = course(LEAN, 1)
        first[0].append("changed")
        self.same(course(LEAN, 1)[0], first[0][:-1])


class RefusalTest(Checking):

    def test_solids_are_looked_at(self):
        for value in NO_SOLIDS:
            self.refused(InvalidSolid, {"value": value}, rest_faces, value)
            self.refused(InvalidSolid, {"value": value}, rest_faces, solid=value)
            for call in AT_FACES:
                self.refused(InvalidSolid, {"value": value}, call, value, 99)
                self.refused(InvalidSolid, {"value": value}, call, position=None, solid=value)

    def test_positions_are_looked_at(self):
        for call in AT_FACES:
            for value in [v for v in samples.junk() if v not in (0, 1, 2) or isinstance(v, bool)] + [4, 6, -1, "0",
                (0,), [0]]:
                self.refused(InvalidPosition, {"value": value}, call, TENT, value)
                self.refused(InvalidPosition, {"value": value}, call, position=value, solid=TENT)
            self.refused(InvalidPosition, {"value": 6}, call, CUBE, 6)
