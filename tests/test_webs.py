"""Tests of websolids.webs."""

import itertools

from tests import looks, samples
from tests.checking import Checking
from websolids.errors import (
    InvalidCorner, InvalidCorners, InvalidMany, InvalidNames, InvalidTies, InvalidWeb, NotTied, TooMany,
)
from websolids.webs import (
    are_tied, degree, is_joined, is_web, made_web, neighbours, parts_without, renamed, with_tie, without_tie,
)

ROW = ("web", 4, ((0, 1), (1, 2), (2, 3)))
PAIRS20 = samples.pairs_of(20)
FULL = ("web", 20, tuple(PAIRS20[:60]))
NO_CORNERS = [-1, 4, 20, 10 ** 50, True, False, None, "0", "", (0,), [0], (), [], {}, (0, 1), b"0", set()]
NO_MANY = [0, -1, 21, 10 ** 50, True, False, None, "3", (3,), [3], [], (), {}, b"3"]
NO_TIES = [None, True, 0, 3, "", "01", {}, {(0, 1): 1}, set(), {(0, 1)}, b""] + [
    row for pair in [[0, 1], (0, 4), (4, 0), (1, 1), (-1, 0), (0,), (), (0, 1, 2), (True, 2), (2, False), (0, True),
                     ("0", 1), None, 0, "01", ((0, 1),), (0, (1,)), (0, None), [], {0: 1}]
    for row in ([pair], (pair,), [(0, 1), pair], ((0, 1), pair, (2, 3)))]


class IsWebTest(Checking):

    def test_webs(self):
        for value in samples.small_webs() + samples.large_webs() + [FULL, ("web", 20, ()), ("web", 1, ())]:
            self.yes(is_web(value))
        self.yes(is_web(value=ROW))

    def test_no_webs(self):
        for value in samples.no_webs():
            self.no(is_web(value), value)

    def test_all_rows_of_two_ties(self):
        pairs = list(itertools.product(range(-1, 4), repeat=2))
        for first, second in itertools.product(pairs, repeat=2):
            right = 0 <= first[0] < first[1] < 3 and 0 <= second[0] < second[1] < 3 and first < second
            self.assertIs(is_web(("web", 3, (first, second))), right, (first, second))

    def test_bounds(self):
        self.yes(is_web(("web", 20, ((18, 19),))))
        self.no(is_web(("web", 19, ((18, 19),))))
        self.no(is_web(("web", 20, ((18, 20),))))
        self.yes(is_web(("web", 11, tuple(samples.pairs_of(11)))))
        self.no(is_web(("web", 12, tuple(samples.pairs_of(12)))))


class MadeWebTest(Checking):

    def test_made(self):
        self.same(made_web(4, [(2, 1), (0, 1), (1, 2), (2, 3)]), ROW)
        self.same(made_web(ties=((3, 2), (1, 0), (2, 1)), many=4), ROW)
        self.same(made_web(1, []), ("web", 1, ()))
        self.same(made_web(20, ()), ("web", 20, ()))

    def test_any_sequence_and_direction(self):
        for web in samples.small_webs() + samples.large_webs():
            turned = [(b, a) for a, b in web[2]]
            self.same(made_web(web[1], turned[::-1]), web)
            self.same(made_web(web[1], tuple(web[2] + tuple(turned))), web)

    def test_bounds(self):
        self.same(made_web(20, PAIRS20[:60]), FULL)
        self.same(made_web(20, PAIRS20[:60] * 3 + PAIRS20[:20]), FULL)
        self.refused(TooMany, {"what": "ties", "limit": 60}, made_web, 20, PAIRS20[:61])
        self.refused(TooMany, {"what": "ties", "limit": 60}, made_web, 20, PAIRS20)
        self.same(made_web(2, [(0, 1)] * 200), ("web", 2, ((0, 1),)))
        self.refused(InvalidTies, {"value": [(0, 1)] * 201}, made_web, 2, [(0, 1)] * 201)
        self.refused(InvalidTies, {"value": tuple(PAIRS20 * 2)}, made_web, 20, tuple(PAIRS20 * 2))

    def test_refuses_many(self):
        for value in NO_MANY:
            self.refused(InvalidMany, {"value": value}, made_web, value, [])
            self.refused(InvalidMany, {"value": value}, made_web, ties="later", many=value)

    def test_refuses_ties(self):
        for value in NO_TIES:
            self.refused(InvalidTies, {"value": value}, made_web, 4, value)
            self.refused(InvalidTies, {"value": value}, made_web, ties=value, many=4)
        self.refused(InvalidTies, {"value": PAIRS20[:61] + [(0, 20)]}, made_web, 20, PAIRS20[:61] + [(0, 20)])
        self.refused(InvalidTies, {"value": [(0, 1)]}, made_web, 1, [(0, 1)])


class LooksAtWebsTest(Checking):

    def test_neighbours(self):
        for web in samples.small_webs() + samples.large_webs():
            for corner in range(web[1]):
                want = looks.beside(web, corner)
                self.same(neighbours(web, corner), want)
                self.same(degree(web, corner), len(want))
                for other in range(web[1]):
                    self.assertIs(are_tied(web, corner, other), other in want)
        self.same(neighbours(corner=2, web=ROW), [1, 3])
        self.same(degree(corner=0, web=ROW), 1)
        self.no(are_tied(other=0, one=3, web=ROW))
        self.new_list(neighbours, ROW, 2)

    def test_is_joined(self):
        for web in samples.small_webs() + samples.all_webs(5) + samples.large_webs():
            self.assertIs(is_joined(web), len(looks.lots_without(web, ())) == 1, web)
        self.yes(is_joined(web=("web", 1, ())))
        self.no(is_joined(("web", 2, ())))

    def test_parts_without(self):
        for web in samples.small_webs():
            for many in range(web[1] + 1):
                for cut in itertools.permutations(range(web[1]), many):
                    want = looks.lots_without(web, cut)
                    self.same(parts_without(web, list(cut)), want)
                    self.same(parts_without(web, cut), want)
        for web in samples.large_webs():
            for cut in [[], [0], [web[1] - 1, 1], list(range(0, web[1], 3)), list(range(web[1]))]:
                self.same(parts_without(web, cut), looks.lots_without(web, cut))
        self.same(parts_without(corners=[1], web=ROW), [(0,), (2, 3)])
        self.new_list(parts_without, ROW, [1])

    def test_all_functions_refuse_webs(self):
        for value in samples.no_webs():
            told = {"value": value}
            for call, rest in [(neighbours, (0,)), (degree, (0,)), (are_tied, (0, 1)), (with_tie, (0, 1)),
                               (without_tie, (0, 1)), (is_joined, ()), (parts_without, ([],)), (renamed, ([0],))]:
                self.refused(InvalidWeb, told, call, value, *rest)
                self.refused(InvalidWeb, told, call, value, *[None for _ in rest])
            self.refused(InvalidWeb, told, with_tie, other="x", one="x", web=value)
            self.refused(InvalidWeb, told, renamed, names="x", web=value)

    def test_corners_are_looked_at(self):
        for value in NO_CORNERS:
            told = {"value": value}
            self.refused(InvalidCorner, told, neighbours, ROW, value)
            self.refused(InvalidCorner, told, degree, ROW, value)
            self.refused(InvalidCorner, told, neighbours, corner=value, web=ROW)
            for call in (are_tied, with_tie, without_tie):
                self.refused(InvalidCorner, told, call, ROW, value, 0)
                self.refused(InvalidCorner, told, call, ROW, 0, value)
                self.refused(InvalidCorner, told, call, ROW, value, value)
                self.refused(InvalidCorner, told, call, other="later", one=value, web=ROW)

    def test_lists_of_corners_are_looked_at(self):
        for value in [None, 0, True, "", "01", {}, {0: 1}, set(), {0}, b"", [4], [-1], (0, 0), [1, 2, 1], [True],
                      [0, False], ["0"], [None], [[0]], [(0,)], ((0,),), [0, 1, 2, 3, 4], [0, 1, 2, 3, 0]]:
            self.refused(InvalidCorners, {"value": value}, parts_without, ROW, value)
            self.refused(InvalidCorners, {"value": value}, parts_without, corners=value, web=ROW)


class ChangedWebsTest(Checking):

    def test_with_and_without_a_tie(self):
        for web in samples.small_webs() + samples.all_webs(5)[::7] + samples.large_webs()[::5]:
            for one, other in itertools.permutations(range(web[1]), 2):
                tie = (min(one, other), max(one, other))
                rest = tuple([kept for kept in web[2] if kept != tie])
                if tie in web[2]:
                    self.same(with_tie(web, one, other), web)
                    self.same(without_tie(web, one, other), ("web", web[1], rest))
                else:
                    self.refused(NotTied, {}, without_tie, web, one, other)
                    if len(web[2]) < 60:
                        self.same(with_tie(web, one, other), ("web", web[1], tuple(sorted(rest + (tie,)))))
        self.same(with_tie(other=0, one=3, web=ROW)[2], ((0, 1), (0, 3), (1, 2), (2, 3)))
        self.same(without_tie(other=1, one=2, web=ROW)[2], ((0, 1), (2, 3)))

    def test_a_corner_alone(self):
        for corner in range(4):
            self.refused(InvalidCorner, {"value": corner}, with_tie, ROW, corner, corner)
            self.refused(NotTied, {}, without_tie, ROW, corner, corner)
            self.no(are_tied(ROW, corner, corner))

    def test_sixty_ties(self):
        self.same(with_tie(("web", 20, tuple(PAIRS20[:59])), *PAIRS20[59]), FULL)
        self.same(with_tie(FULL, *PAIRS20[59]), FULL)
        self.refused(TooMany, {"what": "ties", "limit": 60}, with_tie, FULL, 19, 18)
        self.refused(InvalidCorner, {"value": 19}, with_tie, FULL, 19, 19)
        self.same(without_tie(FULL, *PAIRS20[59]), ("web", 20, tuple(PAIRS20[:59])))

    def test_renamed(self):
        self.same(renamed(ROW, [3, 0, 1, 2]), ("web", 4, ((0, 1), (0, 3), (1, 2))))
        self.same(renamed(names=(3, 0, 1, 2), web=ROW), ("web", 4, ((0, 1), (0, 3), (1, 2))))
        for web in samples.small_webs():
            for names in itertools.permutations(range(web[1])):
                want = samples.web_with(web[1], [(names[a], names[b]) for a, b in web[2]])
                self.same(renamed(web, list(names)), want)
                self.same(renamed(want, [names.index(corner) for corner in range(web[1])]), web)
        for web in samples.large_webs():
            names = [(7 * corner + 3) % web[1] if web[1] % 7 else web[1] - 1 - corner for corner in range(web[1])]
            want = samples.web_with(web[1], [(names[a], names[b]) for a, b in web[2]])
            self.same(renamed(web, names), want)

    def test_names_are_looked_at(self):
        for value in [None, 0, True, "0123", {}, {0: 1, 1: 2, 2: 3, 3: 0}, set(), {0, 1, 2, 3}, [], (), [0, 1, 2],
                      [0, 1, 2, 3, 4], [0, 1, 2, 2], [1, 2, 3, 4], [-1, 0, 1, 2], [False, 1, 2, 3], [0, True, 2, 3],
                      ["0", 1, 2, 3], [None, 1, 2, 3], [(0,), 1, 2, 3], [[0], 1, 2, 3], [0, 1, 2, 3, 3], b"\x00\x01\x02\x03"]:
            self.refused(InvalidNames, {"value": value}, renamed, ROW, value)
            self.refused(InvalidNames, {"value": value}, renamed, names=value, web=ROW)
