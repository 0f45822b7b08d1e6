"""Tests of websolids.looks."""

import random
from fractions import Fraction

from tests import samples, solidsamples
from tests.checking import Checking
from tests.solidlooks import exact, rises_of, steps_of
from tests.solidsamples import told
from tests.test_solids import CUBE, NO_SOLIDS, TENT
from tests.test_space import NO_POINTS
from websolids.errors import InvalidPoint, InvalidSolid, NotClear, NotOutside
from websolids.hulls import hull
from websolids.looks import corners_seen, is_blocked, rim, seen

O, W = (0, 1), (1, 1)
EDGE = ("solid", ((O, O, O), (W, O, O), (O, W, O), (O, O, W)), ((0, 1, 3), (0, 2, 1), (0, 3, 2), (1, 2, 3)))
HIGH, LOW = told((2, 2, 2)), told((-1, -1, -1))
EYES = (seen, rim, corners_seen)


def middle(rows):
    """The middle of points of Fractions."""
    return [sum(column) / len(rows) for column in zip(*rows)]


def points_for(solid, seed):
    """Points of many kinds: inside, on faces, ties, corners, on planes beyond faces, near, far."""
    chance = random.Random(seed)
    corners = [exact(corner) for corner in solid[1]]
    inner, rows = middle(corners), [middle(corners)] + chance.sample(corners, 2)
    for _ in range(3):
        ring = chance.choice(solid[2])
        face = [corners[corner] for corner in ring]
        rows.append(middle(face))
        rows.append(middle(face[:2]))
        # On the plane of the face, beyond a tie of it.
        rows.append([p + 3 * (p - m) for p, m in zip(middle(face[:2]), middle(face))])
        for far in (Fraction(1, 10 ** 9), 1, 50, 10 ** 9):
            part = [Fraction(chance.randrange(-99, 99), 97) for _ in range(3)]
            rows.append([p + far * (p - m) + far * q / 100 for p, m, q in zip(middle(face), inner, part)])
    return [told(row) for row in rows]


def looked_blocked(solid, one, other):
    """Whether a point strictly between lies strictly inside: looked for between all crossings of planes."""
    first, last = exact(one), exact(other)
    parts = {Fraction(0), Fraction(1)}
    for start, end in zip(rises_of(solid, one), rises_of(solid, other)):
        if start != end and 0 < start / (start - end) < 1:
            parts.add(start / (start - end))
    parts = sorted(parts)
    for low, high in zip(parts, parts[1:]):
        part = (low + high) / 2
        if max(rises_of(solid, told([p + part * (q - p) for p, q in zip(first, last)]))) < 0:
            return True
    return False


def touches_between(solid, one, other):
    """Whether a point strictly between two points is in the solid or on it."""
    first, last = exact(one), exact(other)
    low, high = Fraction(0), Fraction(1)
    for start, end in zip(rises_of(solid, one), rises_of(solid, other)):
        if start > 0 and end > 0:
            return False
        if start > 0:
            low = max(low, start / (start - end))
        if end > 0:
            high = min(high, start / (start - end))
    return first != last and low <= high and high > 0 and low < 1


class EyesTest(Checking):

    def looked(self, solid, point):
        """Looks at what an eye sees, or why it is none; the word for it."""
        rises = rises_of(solid, point)
        if max(rises) <= 0 or 0 in rises:
            error = NotOutside if max(rises) <= 0 else NotClear
            for call in EYES:
                self.refused(error, {}, call, solid, point)
            return error.__name__
        faces = seen(solid, point)
        self.same(faces, [at for at, rise in enumerate(rises) if rise > 0])
        self.assertTrue(0 < len(faces) < len(solid[2]))
        steps = [step for at in faces for step in steps_of(solid[2][at])]
        edge = sorted([(a, b) for a, b in steps if (b, a) not in steps])
        ring = rim(solid, point)
        self.assertIs(type(ring), tuple)
        self.assertEqual(sorted(steps_of(ring)), edge)
        self.assertEqual((ring[0], len(set(ring))), (min(ring), len(ring)))
        corners = corners_seen(solid, point)
        self.same(corners, sorted({corner for at in faces for corner in solid[2][at]}))
        self.assertLessEqual(set(ring), set(corners))
        for corner, place in enumerate(solid[1]):
            self.assertIs(corner not in corners, touches_between(solid, point, place))
        return "seen"

    def test_points_of_all_kinds(self):
        found = {}
        for seed, solid in enumerate(solidsamples.solids()):
            for point in points_for(solid, seed):
                word = self.looked(solid, point)
                found[word] = found.get(word, 0) + 1
        self.assertEqual(sorted(found), ["NotClear", "NotOutside", "seen"])
        self.assertGreater(min(found.values()), 30, found)

    def test_known(self):
        self.same([seen(EDGE, HIGH), rim(EDGE, HIGH), seen(EDGE, LOW), rim(EDGE, LOW), corners_seen(EDGE, HIGH)],
                  [[3], (1, 2, 3), [0, 1, 2], (1, 3, 2), [1, 2, 3]])
        self.same([corners_seen(EDGE, LOW), seen(point=HIGH, solid=EDGE), rim(point=LOW, solid=EDGE)],
                  [[0, 1, 2, 3], [3], (1, 3, 2)])
        self.same(corners_seen(point=HIGH, solid=EDGE), [1, 2, 3])
        self.same([len(seen(CUBE, HIGH)), len(rim(CUBE, HIGH)), len(corners_seen(CUBE, HIGH))], [3, 6, 7])
        above = told((Fraction(1, 2), Fraction(1, 2), 5))
        self.same([len(seen(CUBE, above)), len(rim(CUBE, above)), len(corners_seen(CUBE, above))], [1, 4, 4])

    def test_no_eyes(self):
        half = Fraction(1, 2)
        for call in EYES:
            for point in [(half, half, half), (0, 0, 0), (1, 1, 1), (half, 0, 0), (half, half, 0), (1, half, 1)]:
                self.refused(NotOutside, {}, call, CUBE, told(point))
                self.refused(NotOutside, {}, call, point=told(point), solid=CUBE)
            for point in [(2, 0, 0), (2, half, 0), (2, 0, 5), (2, 2, 1), (-3, 1, 1), (2, 1, half), (0, 7, 9)]:
                self.refused(NotClear, {}, call, CUBE, told(point))
                self.refused(NotClear, {}, call, point=told(point), solid=CUBE)
        near = Fraction(1, 10 ** 58)
        self.same(len(seen(CUBE, told((half, half, 1 + near)))), 1)
        self.same(len(seen(CUBE, told((1 + near, 1 + near, 1 + near)))), 3)
        self.refused(NotOutside, {}, seen, CUBE, told((half, half, 1 - near)))

    def test_new_lists(self):
        self.new_list(seen, CUBE, HIGH)
        self.new_list(corners_seen, CUBE, HIGH)

    def test_solids_and_points_are_looked_at(self):
        for call in EYES:
            for value in NO_SOLIDS:
                self.refused(InvalidSolid, {"value": value}, call, value, HIGH)
                self.refused(InvalidSolid, {"value": value}, call, point=None, solid=value)
            for value in NO_POINTS + samples.junk():
                self.refused(InvalidPoint, {"value": value}, call, TENT, value)
                self.refused(InvalidPoint, {"value": value}, call, point=value, solid=CUBE)


class BlockedTest(Checking):

    def looked(self, solid, one, other):
        wanted = looked_blocked(solid, one, other)
        self.assertIs(is_blocked(solid, one, other), wanted, (solid, one, other))
        self.assertIs(is_blocked(solid, other, one), wanted)
        return wanted

    def test_points_of_all_kinds(self):
        found = {True: 0, False: 0}
        for seed, solid in enumerate(solidsamples.solids()):
            points = list(dict.fromkeys(points_for(solid, seed)))
            chance = random.Random(seed)
            for _ in range(14):
                found[self.looked(solid, *chance.sample(points, 2))] += 1
        self.assertGreater(min(found.values()), 60, found)

    def test_pairs_of_corners(self):
        for solid in solidsamples.solids()[::4]:
            for one, other in samples.pairs_of(len(solid[1]))[::3]:
                shared = [ring for ring in solid[2] if one in ring and other in ring]
                self.assertIs(is_blocked(solid, solid[1][one], solid[1][other]), not shared)

    def test_known(self):
        half = Fraction(1, 2)
        ways = {
            False: [((0, 0, 0), (1, 0, 0)), ((-1, 0, 0), (5, 0, 0)), ((0, 0, 0), (1, 1, 0)), ((-1, -1, 1), (2, 2, 1)),
                    ((-1, 1, half), (1, -1, half)), ((2, 2, 2), (1, 1, 1)), ((2, 0, 0), (0, 2, 0)),
                    ((half, half, 1), (half, half, 2)),
                    ((half, half, -1), (half, half, 0)), ((3, 3, 3), (2, 2, 2)), ((0, half, 3), (0, half, -3)),
                    ((2, -1, half), (-1, -4, half)),
                    ((0, 0, 2), (2, 0, 0))],
            True: [((0, 0, 0), (1, 1, 1)), ((2, 2, 2), (-1, -1, -1)), ((half, half, half), (half, half, Fraction(3, 4))),
                   ((half, half, half), (5, 6, 7)), ((half, half, 2), (half, half, half)),
                   ((half, half, -1), (half, half, 9)),
                   ((half, half, 0), (half, 0, half)), ((1, 0, 0), (0, 1, 1)),
                   ((-1, half, half), (Fraction(1, 10 ** 50), half, half))],
        }
        for wanted, rows in ways.items():
            for one, other in rows:
                self.assertIs(is_blocked(CUBE, told(one), told(other)), wanted, (one, other))
                self.assertIs(is_blocked(other=told(one), one=told(other), solid=CUBE), wanted, (one, other))
                self.assertIs(self.looked(CUBE, told(one), told(other)), wanted)
        self.yes(is_blocked(EDGE, HIGH, LOW))
        self.no(is_blocked(EDGE, HIGH, EDGE[1][1]))

    def test_near_ways(self):
        near = Fraction(1, 10 ** 55)
        self.no(is_blocked(CUBE, told((-1, half_of(1), 1)), told((2, half_of(1), 1))))
        self.yes(is_blocked(CUBE, told((-1, half_of(1), 1 - near)), told((2, half_of(1), 1 - near))))
        self.no(is_blocked(CUBE, told((-1, half_of(1), 1 + near)), told((2, half_of(1), 1 + near))))
        flat = hull([told((0, 0, 0)), told((1, 0, 0)), told((0, 1, 0)), told((1, 1, near))])
        self.yes(is_blocked(flat, told((half_of(1), half_of(1), 1)), told((half_of(1), half_of(1), -1))))

    def test_solids_and_points_are_looked_at(self):
        for value in NO_SOLIDS:
            self.refused(InvalidSolid, {"value": value}, is_blocked, value, HIGH, HIGH)
            self.refused(InvalidSolid, {"value": value}, is_blocked, other=None, one=None, solid=value)
        for value in NO_POINTS + samples.junk():
            self.refused(InvalidPoint, {"value": value}, is_blocked, TENT, value, None)
            self.refused(InvalidPoint, {"value": value}, is_blocked, TENT, HIGH, value)
            self.refused(InvalidPoint, {"value": value}, is_blocked, other=value, one=LOW, solid=CUBE)
        for point in list(CUBE[1]) + [HIGH, LOW]:
            self.refused(InvalidPoint, {"value": point}, is_blocked, CUBE, point, point)


def half_of(number):
    """Half of a number."""
    return Fraction(number, 2)
