"""Tests of websolids.wholes, and of the solids that websolids.anew makes of maps."""

from fractions import Fraction
from math import lcm

from tests import samples, solidsamples
from tests.checking import Checking
from tests.solidlooks import exact, looks_like_solid, spoilt
from tests.solidsamples import told
from tests.test_polar import FOUR
from tests.test_solids import CUBE, NO_SOLIDS, TENT
from websolids.anew import solid_of_map
from websolids.errors import InvalidRoom, InvalidSolid
from websolids.faces import the_map
from websolids.hulls import hull
from websolids.maps import mirror
from websolids.polar import polar
from websolids.solids import inside, is_solid, map_of
from websolids.wholes import enlarged, greatest_size, is_shrunk, scale, shrunk

HALF = ("solid", tuple([tuple([(part[0], 2) for part in corner]) for corner in FOUR[1]]), FOUR[2])
ROOMS = [0, 1, 2, 3, 9, 40]


def numbers(solid):
    """All numbers of the corners."""
    return [part for corner in solid[1] for part in exact(corner)]


def scale_of(solid):
    """The scale."""
    return lcm(*[part.denominator for part in numbers(solid)])


def with_numbers(solid, change):
    """The solid with each number changed."""
    return ("solid", tuple([told([change(part) for part in exact(corner)]) for corner in solid[1]]), solid[2])


def looks_shrunk(solid, value):
    """Whether a right solid is a shrunk one of a solid."""
    if not looks_like_solid(value) or value[2] != solid[2] or scale_of(value) != 1:
        return False
    return max([abs(part) for part in numbers(value)]) <= scale_of(solid) * max([abs(part) for part in numbers(solid)])


def long_solid():
    """A solid of 20 corners with numbers of 40 digits, with unlike unders: its scale has more than 400 digits."""
    points = []
    for x in range(5):
        for y in range(4):
            part = Fraction(1, 10 ** 39 + 2 * (4 * x + y) + 1)
            points.append(told((x + part, y - 2 * part, x * x + y * y + part / 3)))
    return hull(points)


class WholesTest(Checking):

    def test_scales(self):
        for solid in solidsamples.solids() + (long_solid(),):
            whole = scale_of(solid)
            self.same(scale(solid), whole)
            self.same(enlarged(solid), with_numbers(solid, lambda part: part * whole))
            self.assertTrue(looks_like_solid(enlarged(solid)))
            self.same((greatest_size(solid),), told([max([abs(part) for part in numbers(solid)])]))
            self.same(scale(enlarged(solid)), 1)
            self.same(enlarged(enlarged(solid)), enlarged(solid))

    def test_known(self):
        self.same([scale(FOUR), scale(HALF), enlarged(HALF) == FOUR, greatest_size(HALF)], [1, 2, True, (3, 2)])
        self.same(scale(solid=HALF), 2)
        self.same(enlarged(solid=HALF), FOUR)
        self.same(greatest_size(solid=HALF), (3, 2))
        third = with_numbers(HALF, lambda part: part / 3 - 9)
        self.same([scale(third), greatest_size(third)], [6, (55, 6)])

    def test_shrunk_ones(self):
        for at, solid in enumerate(solidsamples.solids()):
            for room in ROOMS[at % 2::2]:
                value = shrunk(solid, room)
                self.yes(is_shrunk(solid, value))
                self.assertTrue(looks_shrunk(solid, value))
                self.same(shrunk(room=room, solid=solid), value)

    def test_rooms(self):
        cube = with_numbers(CUBE, lambda part: 90 * part + 10 ** 20)
        sizes = [greatest_size(shrunk(cube, room))[0] for room in range(41)]
        self.assertEqual(sizes, sorted(sizes, reverse=True))
        self.assertEqual(sizes[40], 1)
        self.assertLess(sizes[1], 100)

    def test_trials_are_of_use(self):
        for solid in (hull(solidsamples.bowl(9, 2, 10 ** 6)), hull(solidsamples.bowl(20, 3, 10 ** 6))):
            sizes = [greatest_size(shrunk(solid, room))[0] for room in (0, 1, 2, 6, 40)]
            self.assertEqual(sizes, sorted(sizes, reverse=True))
            self.assertLess(10 ** 5 * sizes[4], sizes[0])
        # Corners of faces with more than three can't be put nearer one by one; but the map alone tells a lesser solid.
        long = with_numbers(solidsamples.moved(solid_of_map(the_map(solidsamples.wheel(7))), 3),
                            lambda part: part * (10 ** 30 + 57) + Fraction(1, 10 ** 30 + 57))
        sizes = [greatest_size(shrunk(long, room))[0] for room in (0, 1, 2)]
        self.assertLess(sizes[2], sizes[1])
        self.assertLess(10 ** 20 * sizes[1], sizes[0])

    def test_polar_ones(self):
        for solid in [polar(solid, inside(solid)) for solid in solidsamples.solids() if len(solid[2]) <= 20]:
            for room in (0, 1, 40):
                self.assertTrue(looks_shrunk(solid, shrunk(solid, room)))

    def test_long_numbers(self):
        # What may be told in more ways than one has no number of more than 400 digits.
        solid = long_solid()
        self.assertGreater(scale(solid), 10 ** 400)
        for room in ROOMS:
            value = shrunk(solid, room)
            self.assertLess(greatest_size(value)[0], 10 ** 400)
            self.assertTrue(looks_shrunk(solid, value))
            self.yes(is_shrunk(solid, value))
        self.yes(is_shrunk(solid, enlarged(solid)))

    def test_solids_with_long_faces_and_long_numbers(self):
        for web in [solidsamples.kites(9), solidsamples.twelve_fives(), samples.cube(), solidsamples.prism(10)]:
            solid = solidsamples.moved(solid_of_map(the_map(web)), 4)
            long = with_numbers(solid, lambda part: part * Fraction(10 ** 59 + 9, 10 ** 59 + 3))
            for room in (0, 40):
                value = shrunk(long, room)
                self.assertTrue(looks_shrunk(long, value))
                self.assertLess(greatest_size(value)[0], 10 ** 400)

    def test_solids_are_looked_at(self):
        for value in NO_SOLIDS:
            for call in (scale, enlarged, greatest_size):
                self.refused(InvalidSolid, {"value": value}, call, value)
                self.refused(InvalidSolid, {"value": value}, call, solid=value)
            self.refused(InvalidSolid, {"value": value}, shrunk, value, 3)
            self.refused(InvalidSolid, {"value": value}, shrunk, room=None, solid=value)
            self.refused(InvalidSolid, {"value": value}, is_shrunk, value, TENT)
            self.refused(InvalidSolid, {"value": value}, is_shrunk, value=None, solid=value)

    def test_rooms_are_looked_at(self):
        for value in [value for value in samples.junk() if value not in (0, 1, 2, 7, 21) or isinstance(value, bool)] + [
                41, -1, 1000, "3", (3,), [3], b"3"]:
            self.refused(InvalidRoom, {"value": value}, shrunk, TENT, value)
            self.refused(InvalidRoom, {"value": value}, shrunk, room=value, solid=HALF)


class IsShrunkTest(Checking):

    def test_solids(self):
        self.yes(is_shrunk(HALF, FOUR))
        self.no(is_shrunk(HALF, HALF))
        self.yes(is_shrunk(FOUR, FOUR))
        self.yes(is_shrunk(value=FOUR, solid=HALF))
        self.no(is_shrunk(FOUR, TENT))
        for solid in solidsamples.solids():
            self.yes(is_shrunk(solid, enlarged(solid)))
            self.assertIs(is_shrunk(solid, solid), scale_of(solid) == 1)
            most = max([abs(part) for part in numbers(enlarged(solid))])
            for by in (1, -1, 2, most, -most):
                value = with_numbers(enlarged(solid), lambda part: part + by)
                self.assertIs(is_shrunk(solid, value), looks_shrunk(solid, value))
            self.no(is_shrunk(solid, with_numbers(enlarged(solid), lambda part: part * 2)))
            self.no(is_shrunk(solid, with_numbers(enlarged(solid), lambda part: part / 2 if part % 2 else part)))
            self.no(is_shrunk(solid, with_numbers(enlarged(solid), lambda part: -part)))

    def test_just_as_great(self):
        wide = with_numbers(FOUR, lambda part: part * 2)
        self.yes(is_shrunk(wide, with_numbers(FOUR, lambda part: part + 3)))
        self.no(is_shrunk(wide, with_numbers(FOUR, lambda part: part + 4)))
        self.yes(is_shrunk(wide, with_numbers(FOUR, lambda part: part - 5)))
        self.no(is_shrunk(wide, with_numbers(FOUR, lambda part: part - 6)))

    def test_any_value(self):
        for value in NO_SOLIDS + spoilt(FOUR) + samples.no_webs()[::3]:
            self.no(is_shrunk(TENT, value), value)
            self.no(is_shrunk(FOUR, value), value)


class AnewTest(Checking):

    def test_solids_of_maps(self):
        for chart in solidsamples.solid_maps():
            for one in (chart, mirror(chart)):
                solid = solid_of_map(one)
                self.yes(is_solid(solid))
                self.assertTrue(looks_like_solid(solid))
                self.same(map_of(solid), one)
                self.assertLess(max([max(abs(part[0]), part[1]) for corner in solid[1] for part in corner]), 10 ** 400)
