"""Tests of websolids.hulls."""

import itertools
import random
from fractions import Fraction

from tests import samples, solidsamples
from tests.checking import Checking
from tests.solidlooks import cross, exact, less, looks_like_solid, product, rises_of, spoilt, upright
from tests.solidsamples import told
from tests.test_solids import CUBE, E, HALF, NO_SOLIDS, O, TENT
from tests.test_space import NO_POINTS
from websolids.errors import Flat, InvalidPoints, TooMany
from websolids.hulls import hull, is_hull, needed

THIRD = (1, 3)
FLAT = [[told(point) for point in row] for row in [
    [(0, 0, 0)] * 4, [(k, 2 * k, -k) for k in range(5)], [(0, 0, 0), (1, 0, 0), (0, 1, 0), (1, 1, 0), (2, 5, 0)],
    [(x, y, x - 2 * y + Fraction(1, 3)) for x in range(5) for y in range(5)], [(1, 1, 1), (2, 2, 2)] * 20,
    [(x, y, 10 ** 39) for x, y in [(0, 0), (10 ** 39, 1), (5, 7), (5, 7)]], [(0, 0, 0), (1, 0, 0), (0, 1, 0), (0, 0, 0)]]]


def faces_tried(points):
    """The lots of the points on the planes of faces, found by trying all threes."""
    found = set()
    for p, q, r in itertools.combinations(points, 3):
        outward = upright(p, q, r)
        if outward != [0, 0, 0]:
            rises = [product(outward, less(point, p)) for point in points]
            if min(rises) >= 0 or max(rises) <= 0:
                found.add(tuple([at for at, rise in enumerate(rises) if rise == 0]))
    return found


def is_mean(point, others):
    """Whether a point of a plane is a mean of others: at one of them, between two, or in a triangle of three."""
    if point in others:
        return True
    for p, q in itertools.combinations(others, 2):
        if cross(less(p, point), less(q, point)) == [0, 0, 0] and product(less(p, point), less(q, point)) < 0:
            return True
    for p, q, r in itertools.combinations(others, 3):
        rows = [cross(less(a, point), less(b, point)) for a, b in ((p, q), (q, r), (r, p))]
        if upright(p, q, r) != [0, 0, 0] and min([product(row, upright(p, q, r)) for row in rows]) > 0:
            return True
    return False


def needed_tried(points):
    """The needed points: those of a face that are no mean of other ones of it."""
    rows = [exact(point) for point in sorted(set(points))]
    found = set()
    for lot in faces_tried(rows):
        for at in lot:
            if not is_mean(rows[at], [rows[other] for other in lot if other != at]):
                found.add(told(rows[at]))
    return sorted(found)


def by_chance(many, seed, most, longest=1):
    """Points by chance, of numbers of at most this size."""
    chance = random.Random(seed)
    rows = []
    for _ in range(many):
        rows.append(told([Fraction(chance.randrange(-most, most + 1), chance.randrange(1, longest + 1)) for _ in range(3)]))
    return rows


def shuffled(points, seed):
    """The points in another sequence, some told twice."""
    row = list(points) + list(points[:max(0, min(len(points) // 3, 40 - len(points)))])
    random.Random(seed).shuffle(row)
    return row


class HullTest(Checking):

    def looked_at(self, points):
        """The hull is right, of some of the points, and all others are not above its planes: so it is the hull."""
        solid = hull(points)
        self.assertTrue(looks_like_solid(solid))
        self.assertEqual(list(solid[1]), sorted(set(solid[1])))
        self.assertLessEqual(set(solid[1]), set(points))
        for point in points:
            self.assertLessEqual(max(rises_of(solid, point)), 0)
        self.same(needed(points), list(solid[1]))
        self.yes(is_hull(points, solid))
        return solid

    def test_small_numbers(self):
        for seed in range(60):
            points = by_chance(4 + seed % 9, seed, 1 + seed % 3, 1 + seed % 2)
            want = needed_tried(points)
            if want == [] or len(faces_tried([exact(point) for point in set(points)])) == 1:
                self.refused(Flat, {}, hull, points)
            else:
                self.same(list(self.looked_at(points)[1]), want)

    def test_many_points(self):
        for seed in range(12):
            points = by_chance(40, seed, 2, 2)
            want = needed(points)
            if len(want) <= 20:
                self.looked_at(points)
            self.looked_at(by_chance(8 + seed, seed, 10 ** 40 - 1, 10 ** 40 - 1))
        for seed in range(6):
            self.looked_at(shuffled(solidsamples.bowl(20, seed), seed))

    def test_points_on_faces_and_ties(self):
        grid = [told(point) for point in itertools.product((0, 1, 2), repeat=3)]
        self.same(self.looked_at(grid), solidsamples.box(2, 2, 2))
        self.same(len(self.looked_at(shuffled(grid, 1))[2]), 6)
        for solid in solidsamples.solids():
            corners = [exact(corner) for corner in solid[1]]
            ring = [corners[corner] for corner in solid[2][0]]
            more = [[(a + b) / 2 for a, b in zip(ring[0], ring[1])], [sum(row) / len(ring) for row in zip(*ring)],
                    [sum(row) / len(corners) for row in zip(*corners)]]
            points = shuffled(list(solid[1]) + [told(point) for point in more], 5)
            found = self.looked_at(points)
            self.assertEqual(sorted(solid[1]), list(found[1]))
            self.yes(is_hull(points, solid))
            self.yes(is_hull(list(solid[1]), found))

    def test_known(self):
        self.same(hull([(E, O, O), (THIRD, THIRD, THIRD), (O, O, E), (O, E, O), (O, O, O), (O, O, O)]), TENT)
        self.same(hull(points=list(TENT[1])[::-1]), TENT)
        self.same(hull(tuple(TENT[1])), TENT)
        self.same(needed([(E, O, O), (O, O, E), (HALF, O, HALF), (O, E, O), (O, O, O)]), list(TENT[1]))
        self.same(needed(points=TENT[1] * 10), list(TENT[1]))
        self.new_list(needed, list(TENT[1]))

    def test_sorted_as_python_sorts(self):
        # (1, 2) is ahead of (1, 1) as a tuple is sorted by its number, then by its under.
        points = [(HALF, O, O), (E, O, O), (O, O, E), ((-3, 1), O, O), (O, (2, 1), O), (O, (1, 3), (-1, 1))]
        solid = self.looked_at(points)
        self.assertEqual(list(solid[1]), sorted(solid[1]))
        self.same(needed([((1, 1), O, O), ((1, 2), E, O), ((1, 2), O, E), ((1, 2), O, O)])[0][0], (1, 1))

    def test_more_than_20(self):
        for many in (20, 21, 30, 40):
            points = solidsamples.bowl(many, many)
            self.same(needed(shuffled(points, 2)), sorted(points))
            if many == 20:
                self.looked_at(points)
            else:
                self.refused(TooMany, {"what": "corners", "limit": 20}, hull, points)
                self.refused(TooMany, {"what": "corners", "limit": 20}, hull, points=points)
                part = hull(points[:20])
                self.no(is_hull(points, part))
                self.no(is_hull(points, ("solid", tuple(sorted(points)), part[2])))
                self.no(is_hull(points, None))
        inner = [told((0, 0, k)) for k in range(100, 120)]
        self.same(len(needed(solidsamples.bowl(20, 5) + inner)), 21)

    def test_bounds(self):
        self.same(hull(list(TENT[1]) * 10), TENT)
        for points in [list(TENT[1])[:3], list(TENT[1]) * 10 + [TENT[1][0]], [], (), TENT[1] * 100]:
            for call in (hull, needed):
                self.refused(InvalidPoints, {"value": points}, call, points)
            self.refused(InvalidPoints, {"value": points}, is_hull, points, TENT)

    def test_flat_ones(self):
        for points in FLAT:
            for call in (hull, needed):
                self.refused(Flat, {}, call, points)
                self.refused(Flat, {}, call, points=tuple(points))
            self.refused(Flat, {}, is_hull, points, TENT)
            self.refused(Flat, {}, is_hull, value=None, points=points)
        # More than 20 corners of a flat piece: Flat() ahead of TooMany.
        self.refused(Flat, {}, hull, [told((k, k * k, 0)) for k in range(40)])

    def test_points_are_looked_at(self):
        wrong = [None, True, 0, "", "abcd", {}, set(), set(TENT[1]), dict.fromkeys(TENT[1]), b"abcd", TENT, list(TENT[1])[:2]]
        wrong += [list(TENT[1])[:3] + [point] for point in NO_POINTS] + [(point,) + TENT[1] for point in NO_POINTS]
        wrong += [FLAT[1][:3] + [point] for point in NO_POINTS[:4]]
        for value in wrong + samples.junk():
            for call in (hull, needed):
                self.refused(InvalidPoints, {"value": value}, call, value)
                self.refused(InvalidPoints, {"value": value}, call, points=value)
            self.refused(InvalidPoints, {"value": value}, is_hull, value, TENT)
            self.refused(InvalidPoints, {"value": value}, is_hull, value=None, points=value)

    def test_what_is_passed_stays(self):
        points = shuffled(solidsamples.bowl(12, 3), 4)
        kept = list(points)
        for call in (hull, needed):
            self.same(call(points), call(points))
        self.yes(is_hull(points, hull(points)))
        self.same(points, kept)


class IsHullTest(Checking):

    def test_corners_in_another_sequence(self):
        for solid in solidsamples.solids():
            points = shuffled(solid[1], 3)
            self.yes(is_hull(points, solid))
            self.yes(is_hull(value=hull(points), points=points))
        self.yes(is_hull(list(TENT[1])[::-1], TENT))

    def test_other_solids(self):
        self.no(is_hull(list(TENT[1]) + [(E, E, E)], TENT))
        self.no(is_hull(list(TENT[1]), CUBE))
        self.no(is_hull(list(CUBE[1]), TENT))
        self.yes(is_hull(list(CUBE[1]) + [(HALF, HALF, HALF), (O, O, HALF)], CUBE))
        less_one = hull([point for point in CUBE[1] if point != (E, E, E)])
        self.no(is_hull(list(CUBE[1]), less_one))
        self.no(is_hull([point for point in CUBE[1] if point != (E, E, E)], CUBE))

    def test_any_value(self):
        for value in NO_SOLIDS + samples.no_webs()[::3]:
            self.no(is_hull(list(TENT[1]), value), value)
        for value in spoilt(CUBE):
            self.no(is_hull(list(CUBE[1]), value), value)
