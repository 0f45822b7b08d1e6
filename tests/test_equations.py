"""Tests of websolids.equations."""

import itertools
import random
from fractions import Fraction

from tests import samples
from tests.checking import Checking
from tests.solidsamples import told
from websolids.equations import is_solution, solved_equations
from websolids.errors import InvalidRight, InvalidRows

ROWS, RIGHT = [[(2, 1), (1, 1)], [(1, 1), (3, 1)]], [(3, 1), (5, 1)]
NO_RATIOS = [None, True, 0, 1, "1", (), (1,), (2, 4), (1, 0), (1, -1), (0, 2), (True, 1), (1, True), [1, 1], (1, 1, 1),
             ((1, 1),), ("1", 1), {}, (None, 1), b"1", (1, len)]


def rows_told(rows):
    """Rows of Fractions as lists of RATIOS."""
    return [list(told(row)) for row in rows]


def determinant(rows):
    """The determinant, by the first row."""
    if not rows:
        return Fraction(1)
    total = Fraction(0)
    for at, part in enumerate(rows[0]):
        if part:
            total += (-1) ** at * part * determinant([row[:at] + row[at + 1:] for row in rows[1:]])
    return total


def by_chance(many, seed, most=4, longest=3):
    """Rows and a right side of Fractions."""
    chance = random.Random(seed)

    def number():
        return Fraction(chance.randrange(-most, most + 1), chance.randrange(1, longest + 1))
    return [[number() for _ in range(many)] for _ in range(many)], [number() for _ in range(many)]


class SolvedTest(Checking):

    def looked_at(self, rows, right):
        """By the test's own determinants: each number of the solution is a quotient of two."""
        whole = determinant(rows)
        passed, side = rows_told(rows), list(told(right))
        found = solved_equations(passed, side)
        if whole == 0:
            self.assertIsNone(found)
            return False
        want = []
        for at in range(len(rows)):
            want.append(determinant([row[:at] + [part] + row[at + 1:] for row, part in zip(rows, right)]) / whole)
        self.same(found, told(want))
        self.yes(is_solution(passed, side, found))
        return True

    def test_all_small_rows(self):
        counts = {True: 0, False: 0}
        for a, b, c, d, e, f in itertools.product((-1, 0, 1, 2), repeat=6):
            rows = [[Fraction(a), Fraction(b)], [Fraction(c), Fraction(d)]]
            counts[self.looked_at(rows, [Fraction(e), Fraction(f)])] += 1
        self.assertGreater(min(counts.values()), 700)
        for a, b in itertools.product((-2, 0, 1), repeat=2):
            self.looked_at([[Fraction(a, 3)]], [Fraction(b, 2)])

    def test_rows_by_chance(self):
        for seed in range(120):
            rows, right = by_chance(2 + seed % 5, seed)
            self.looked_at(rows, right)
            rows[-1] = [2 * a - b / 3 for a, b in zip(rows[0], rows[1 % len(rows)])]
            if len(rows) > 2:
                self.assertFalse(self.looked_at(rows, right))

    def test_rows_that_must_be_exchanged(self):
        for names in itertools.permutations(range(5)):
            rows = [[Fraction(int(names[a] == b)) * (a + 1) for b in range(5)] for a in range(5)]
            self.assertTrue(self.looked_at(rows, [Fraction(k) for k in range(5)]))

    def test_many_rows_with_long_numbers(self):
        for many, most, longest in [(20, 5, 4), (20, 10 ** 40, 10 ** 40), (12, 10 ** 59, 10 ** 59), (1, 10 ** 59, 10 ** 59)]:
            rows, right = by_chance(many, most, most, longest)
            found = solved_equations(rows_told(rows), list(told(right)))
            values = [Fraction(*part) for part in found]
            self.same(found, told(values))
            for row, part in zip(rows, right):
                self.assertEqual(sum([a * b for a, b in zip(row, values)]), part)
            self.yes(is_solution(rows_told(rows), list(told(right)), found))

    def test_none_and_more_than_one(self):
        one, two, zero = (1, 1), (2, 1), (0, 1)
        self.assertIsNone(solved_equations([[one, one], [one, one]], [one, two]))
        self.assertIsNone(solved_equations([[one, one], [one, one]], [one, one]))
        self.assertIsNone(solved_equations([[zero]], [zero]))
        self.assertIsNone(solved_equations([[zero]], [one]))
        self.assertIsNone(solved_equations([[zero, one], [zero, two]], [zero, zero]))
        line = [[one, one], [two, two]], [one, two]
        self.yes(is_solution(*line, ((1, 2), (1, 2))))
        self.yes(is_solution(*line, ((5, 1), (-4, 1))))
        self.no(is_solution(*line, ((5, 1), (-3, 1))))
        self.no(is_solution([[one, one], [one, one]], [one, two], ((1, 2), (1, 2))))

    def test_known(self):
        self.same(solved_equations(ROWS, RIGHT), ((4, 5), (7, 5)))
        self.same(solved_equations(right=RIGHT, rows=ROWS), ((4, 5), (7, 5)))
        self.same(solved_equations(tuple([tuple(row) for row in ROWS]), tuple(RIGHT)), ((4, 5), (7, 5)))
        self.same(solved_equations([tuple(ROWS[0]), ROWS[1]], RIGHT), ((4, 5), (7, 5)))
        self.assertIsNone(solved_equations([[(1, 2), (1, 1)], [(1, 1), (2, 1)]], RIGHT))
        self.same(solved_equations([[(3, 1)]], [(2, 1)]), ((2, 3),))

    def test_what_is_passed_stays(self):
        rows, right = rows_told(by_chance(6, 3)[0]), list(told(by_chance(6, 3)[1]))
        kept = [list(row) for row in rows], list(right)
        first = solved_equations(rows, right)
        is_solution(rows, right, first)
        self.same((rows, right), kept)
        self.same(solved_equations(rows, right), first)


class IsSolutionTest(Checking):

    def test_one_number_changed(self):
        for seed in range(20):
            rows, right = by_chance(3 + seed % 3, seed + 7)
            passed, side = rows_told(rows), list(told(right))
            found = solved_equations(passed, side)
            if found is not None:
                for at in range(len(found)):
                    number, under = found[at]
                    row = found[:at] + (told([Fraction(number, under) + Fraction(1, 10 ** 30)])[0],) + found[at + 1:]
                    self.no(is_solution(passed, side, row))

    def test_anything_else(self):
        right = ((4, 5), (7, 5))
        self.yes(is_solution(ROWS, RIGHT, right))
        self.yes(is_solution(value=right, right=tuple(RIGHT), rows=tuple(ROWS)))
        for value in samples.junk() + [list(right), right[:1], right + ((0, 1),), right[::-1], ((8, 10), (7, 5)), (right,),
                                       ((4, 5), [7, 5]), ((-4, -5), (7, 5)), ((4, 5), None), {(4, 5): (7, 5)}, ((4, 5), 1)]:
            self.no(is_solution(ROWS, RIGHT, value), value)
        self.no(is_solution([[(1, 1)]], [(1, 1)], ((True, 1),)))
        self.no(is_solution([[(1, 1)]], [(1, 1)], ((1, True),)))
        self.no(is_solution([[(1, 1)]], [(1, 1)], (1,)))

    def test_rows_are_looked_at(self):
        wrong = [None, True, 0, "", "01", {}, set(), b"", [], (), [()], [[]], [(1, 1)], ((1, 1), (2, 1)), RIGHT, ROWS[:1],
                 ROWS + ROWS[:1], [ROWS[0], ROWS[1][:1]], [ROWS[0], ROWS[1] + [(0, 1)]], [ROWS[0], None], [ROWS[0], "ab"],
                 [ROWS[0], {(1, 1): 0, (3, 1): 0}], dict(enumerate(ROWS)), [[(1, 1)] * 21] * 21, [ROWS],
                 [ROWS[0], {(1, 1), (3, 1)}]]
        wrong += [[ROWS[0], [(1, 1), part]] for part in NO_RATIOS] + [[[part, (1, 1)], ROWS[1]] for part in NO_RATIOS]
        for value in wrong:
            self.refused(InvalidRows, {"value": value}, solved_equations, value, RIGHT)
            self.refused(InvalidRows, {"value": value}, solved_equations, right="later", rows=value)
            self.refused(InvalidRows, {"value": value}, is_solution, value, None, None)
            self.refused(InvalidRows, {"value": value}, is_solution, value=(), right=[], rows=value)
        self.yes(is_solution([[(0, 1)] * 20] * 20, [(0, 1)] * 20, ((1, 3),) * 20))

    def test_right_sides_are_looked_at(self):
        wrong = [None, True, 0, "", "01", {}, set(), b"", [], (), RIGHT[:1], RIGHT + RIGHT, ROWS, (3, 5), dict(enumerate(RIGHT)),
                 {(3, 1), (5, 1)}, [RIGHT]] + [[part, (1, 1)] for part in NO_RATIOS] + [((1, 1), part) for part in NO_RATIOS]
        for value in wrong:
            self.refused(InvalidRight, {"value": value}, solved_equations, ROWS, value)
            self.refused(InvalidRight, {"value": value}, solved_equations, right=value, rows=tuple(ROWS))
            self.refused(InvalidRight, {"value": value}, is_solution, ROWS, value, None)
            self.refused(InvalidRight, {"value": value}, is_solution, value=(), right=value, rows=ROWS)
