"""Tests of websolids.desk."""

import random

from tests import samples, solidsamples
from tests.checking import Checking
from tests.solidlooks import looks_like_solid, ties_of
from tests.test_commands import FOUR_POINTS
from tests.test_solids import CUBE
from websolids.codes import are_alike
from websolids.commands import is_command, is_deed, point_words, ring_words
from websolids.desk import Desk
from websolids.errors import (
    BadRecord, BadText, CommandFailed, Flat, InvalidCommand, InvalidCorner, InvalidDeeds, InvalidPosition, LimitError,
    MissingError, NameTaken, NoSolid, NoThing, NotAcross, NotDrawn, NothingToRedo, NothingToUndo, NotThreeJoined,
    StateError, TooMany, UnknownName, WebError,
)
from websolids.faces import faces
from websolids.hulls import hull
from websolids.made import has_solid, is_made
from websolids.polar import polar
from websolids.ratios import ratio_text
from websolids.records import judged, record_text
from websolids.rolling import course, rest_faces
from websolids.soliddeeds import cut_off, mirrored, raised
from websolids.solids import inside, map_of, web_of, where
from websolids.webdeeds import cut_corner, tie_across
from websolids.weights import size
from websolids.webs import made_web
from websolids.webtexts import web_text

OWN = (WebError, MissingError, StateError, LimitError)
CUBE_POINTS = " ".join([point_words(corner) for corner in CUBE[1]])
FOUR = "4: 0-1 0-2 0-3 1-2 1-3 2-3"
SQUARE = "4: 0-1 0-3 1-2 2-3"
PIECE = ("solid", (((0, 1), (0, 1), (0, 1)), ((0, 1), (0, 1), (1, 1)), ((0, 1), (1, 1), (0, 1)), ((1, 1), (0, 1), (0, 1))),
         ((0, 1, 2), (0, 2, 3), (0, 3, 1), (1, 3, 2)))
EIGHT = "8: " + web_text(samples.cube())[3:]
TWENTY = hull(solidsamples.bowl(20, 3, 99))


def state(desk):
    """All that a desk tells of itself."""
    return desk.names(), {name: desk[name] for name in desk.names()}, desk.lines(), len(desk)


def redone(desk):
    """The lines that can be done again, the next one first."""
    twin, found = desk.twin(), []
    while True:
        try:
            found.append(twin.do("redo"))
        except NothingToRedo:
            return found


def filled():
    """A desk with a solid a, a cube b, the webs w and x of both, a web q of no solid."""
    desk = Desk()
    desk.do_all("hull a " + FOUR_POINTS, "hull b " + CUBE_POINTS, "trace w a", "trace x b", "web q " + SQUARE)
    return desk


class DeedsTest(Checking):

    def kept(self, command, thing):
        """A deed that keeps this thing under the name c."""
        desk = filled()
        ahead = state(desk)
        self.same(desk.do(command), "-")
        self.same(desk["c"], thing)
        self.same(desk.names(), ["a", "b", "c", "q", "w", "x"])
        self.same(desk.lines(), ahead[2] + [command])
        self.same(desk.do("undo"), command)
        self.same(state(desk), ahead)
        self.same(desk.do("redo"), command)
        self.same(desk["c"], thing)

    def test_each_deed(self):
        four, cube = made_web(4, samples.pairs_of(4)), web_of(CUBE)
        self.kept("web c 3: 0-1", ("web", 3, ((0, 1),)))
        self.kept("web c  4 : 1-0   3-2  ", ("web", 4, ((0, 1), (2, 3))))
        self.kept("hull c 1,0,0 0,0,0 0,1,0 0,0,1 0,0,0", PIECE)
        self.kept("hull c 1/2,0,0 0,0,0 0,1,0 0,0,1 -1,0,0", hull([((1, 2), (0, 1), (0, 1)), ((0, 1), (1, 1), (0, 1)),
                                                                   ((0, 1), (0, 1), (1, 1)), ((-1, 1), (0, 1), (0, 1))]))
        self.kept("trace c a", four)
        self.kept("trace c b", cube)
        self.kept("polar c b", polar(CUBE, inside(CUBE)))
        self.kept("cut c b 3", cut_off(CUBE, 3))
        self.kept("raise c b 5", raised(CUBE, 5))
        self.kept("mirror c a", mirrored(PIECE))
        self.kept("trim c x 7", cut_corner(cube, 7))
        face = [ring for ring in faces(cube)][0]
        self.kept(f"tie c x {face[0]} {face[2]}", tie_across(cube, face[0], face[2]))
        self.kept("copy c q", ("web", 4, ((0, 1), (0, 3), (1, 2), (2, 3))))
        self.kept("copy c b", CUBE)
        self.kept("read c " + record_text(CUBE), CUBE)
        self.kept("read c " + record_text(cube), cube)

    def test_solids_of_webs(self):
        desk = filled()
        for name in ("w", "x"):
            self.same(desk.do("solid s" + name + " " + name), "-")
            self.yes(is_made(desk[name], desk["s" + name]))
            self.same(desk.do("has " + name), "yes")
        ahead = state(desk)
        self.refused(NoSolid, {}, desk.do, "solid c q")
        self.same(state(desk), ahead)
        self.same(desk.do("has q"), "no")

    def test_drop(self):
        desk = filled()
        self.same(desk.do("drop a"), "-")
        self.same(desk.names(), ["b", "q", "w", "x"])
        self.same(desk["w"], made_web(4, samples.pairs_of(4)))
        self.refused(UnknownName, {"value": "a"}, desk.do, "drop a")
        self.same(desk.do("hull a " + CUBE_POINTS), "-")
        self.same(desk["a"], CUBE)
        self.same([desk.do("undo"), desk.do("undo")], ["hull a " + CUBE_POINTS, "drop a"])
        self.same(desk["a"], PIECE)

    def test_a_copy_goes_on_by_itself(self):
        desk = filled()
        desk.do_all("copy c a", "drop a", "cut d c 0")
        self.same(desk["c"], PIECE)
        self.same(desk["d"], cut_off(PIECE, 0))

    def test_other_commands(self):
        desk = filled()
        answers = {
            "names": "a b q w x", "show w": FOUR, "show q": SQUARE, "has w": "yes", "has q": "no", "alike a b": "no",
            "alike a a": "yes", "size a": "1/6", "size b": "1", "where a 1/8,1/8,1/8": "in", "where a 0,0,0": "on",
            "where a 1/2,1/2,0": "on", "where a 1,1,1": "out", "rests a": " ".join([str(at) for at in rest_faces(PIECE)]),
            "rests b": "0 1 2 3 4 5", "judged a": "ok", "judged q": "ok", "record q": record_text(desk["q"]),
            "record b": record_text(CUBE), "same a b": "no", "same a a": "yes", "same w w": "yes", "same w q": "no",
            "show a": "0,0,0 0,0,1 0,1,0 1,0,0\n0-1-2 0-2-3 0-3-1 1-3-2", "faces w": "0-1-2 0-1-3 0-2-3 1-2-3",
            "faces x": " ".join([ring_words(ring) for ring in faces(desk["x"])]),
            "show b": CUBE_POINTS + "\n" + " ".join([ring_words(ring) for ring in CUBE[2]]),
        }
        ahead = state(desk)
        for command, answer in answers.items():
            self.same(desk.do(command), answer)
            self.same(desk(command), answer)
            self.same(desk.do(command=command), answer)
        for solid, name in ((PIECE, "a"), (CUBE, "b")):
            for at in range(len(solid[2])):
                stands, end = course(solid, at)
                self.same(desk.do(f"rolls {name} {at}"), " ".join([str(stand) for stand in stands]) + " " + end)
        self.same(state(desk), ahead)
        self.same(Desk().do("names"), "-")
        self.same(Desk()("names"), "-")

    def test_rolling_and_alike(self):
        desk = Desk()
        desk.do_all("hull a 0,0,0 1,0,0 0,1,0 9,0,1", "mirror b a", "cut c a 0", "cut d b 1", "raise e a 0")
        lean = desk["a"]
        self.same([desk.do(f"rolls a {at}") for at in range(4)],
                  [" ".join([str(stand) for stand in course(lean, at)[0]] + [course(lean, at)[1]]) for at in range(4)])
        self.assertTrue([at for at in range(4) if len(course(lean, at)[0]) > 1])
        for one in "abcde":
            for other in "abcde":
                want = "yes" if are_alike(map_of(desk[one]), map_of(desk[other])) else "no"
                self.same(desk.do(f"alike {one} {other}"), want)
        self.same(desk.do("alike c d"), "yes")
        self.same(desk.do("alike c e"), "no")
        self.same(desk.do("same c d"), "no")

    def test_all_of_it_as_functions_tell(self):
        desk = filled()
        desk.do_all("cut c b 0", "raise d c 2", "polar p c", "web e 3: 0-1")
        for name in desk.names():
            thing = desk[name]
            self.same(desk.do("judged " + name), judged(thing)[0])
            self.same(desk.do("record " + name), record_text(thing))
            if thing[0] == "web":
                self.same(desk.do("has " + name), "yes" if has_solid(thing) else "no")
            else:
                self.same(desk.do("size " + name), ratio_text(size(thing)))
                self.same(desk.do(f"where {name} 1,1/2,3"), where(thing, ((1, 1), (1, 2), (3, 1))))

    def test_what_is_kept(self):
        desk = filled()
        self.same(desk["b"], CUBE)
        for value in samples.junk()[:11] + samples.junk()[13:] + ["c", "A", "aa", "", ["a"], ("a",), b"a", "a "]:
            self.assertIs(value in desk, False)
            self.refused(UnknownName, {"value": value}, desk.__getitem__, value)
        for name in "abqwx":
            self.assertIs(name in desk, True)
        self.assertIs("a" in Desk(), False)
        with self.assertRaises(UnknownName):
            Desk()["a"]
        self.new_list(desk.names)
        self.new_list(desk.lines)

    def test_len(self):
        desk = Desk()
        self.same(len(desk), 0)
        for at in range(9):
            desk.do(f"web w{at} 3:")
            self.same(len(desk), at + 1)
        desk.do("undo")
        self.same(len(desk), 8)
        desk.do("names")
        self.same(len(desk), 8)
        desk.do("redo")
        self.same(len(desk), 9)


class ErrorsTest(Checking):

    def fails(self, error, told, command, desk=None):
        """A command fails on a desk, as do, as a call and in a row; nothing is changed."""
        desk = filled() if desk is None else desk
        ahead, further = state(desk), redone(desk)
        self.refused(error, told, desk.do, command)
        self.refused(error, told, desk.do, command=command)
        with self.assertRaises(error):
            desk(command)
        for rows in ((command,), ("names", command), ("names", "names", command, "drop nothing")):
            with self.assertRaises(CommandFailed) as caught:
                desk.do_all(*rows)
            self.same(caught.exception.position, rows.index(command))
            self.assertIs(type(caught.exception.__cause__), error)
            for name, value in told.items():
                self.same(getattr(caught.exception.__cause__, name), value)
        self.same(state(desk), ahead)
        self.same(redone(desk), further)

    def test_no_commands(self):
        for value in samples.junk() + ["", "do", "cut c b", "cut c b 00", "web c", "names ", "undo 1", "hull c 0,0,0",
                                       "drop", ["undo"]]:
            self.fails(InvalidCommand, {"value": value}, value)

    def test_names_taken(self):
        for command in ["web a 3: 0-9", "hull b " + FOUR_POINTS, "solid w nothing", "trace x nothing",
                        "polar q nothing", "cut a a 99",
                        "raise a a 99", "mirror a nothing", "trim w w 99", "tie q q 0 0", "read a nothing",
                        "copy a nothing", "copy a a"]:
            self.fails(NameTaken, {"name": command.split(" ")[1]}, command)

    def test_unknown_names(self):
        for row in ["solid c {}", "trace c {}", "polar c {}", "cut c {} 99", "raise c {} 99", "mirror c {}",
                    "trim c {} 99", "tie c {} 0 0",
                    "copy c {}", "drop {}", "show {}", "has {}", "faces {}", "alike {} b", "alike b {}", "size {}",
                    "where {} 0,0,0",
                    "rests {}", "rolls {} 99", "judged {}", "record {}", "same {} q", "same q {}", "same {} nothing"]:
            for name in ("nothing", "c", "aa"):
                self.fails(UnknownName, {"value": name}, row.format(name))
        for row in ["solid c {}", "trim c {} 99", "tie c {} 0 0", "has {}", "faces {}", "same q {}", "same w {}"]:
            for name in "ab":
                self.fails(UnknownName, {"value": name}, row.format(name))
        for row in ["trace c {}", "polar c {}", "cut c {} 99", "raise c {} 99", "mirror c {}", "alike {} b",
                    "alike a {}", "alike {} nothing",
                    "size {}", "where {} 0,0,0", "rests {}", "rolls {} 99", "same a {}", "same b {}"]:
            for name in "wq":
                self.fails(UnknownName, {"value": name}, row.format(name))
        self.fails(UnknownName, {"value": "nothing"}, "alike nothing q")
        self.fails(UnknownName, {"value": "none"}, "same a none")

    def test_errors_of_the_tables_and_functions(self):
        self.fails(BadText, {"position": 0}, "web c x")
        self.fails(BadText, {"position": 5}, "web c 3: 0-5")
        self.fails(BadText, {"position": 2}, "web c 3:0-1")
        self.fails(Flat, {}, "hull c 0,0,0 1,0,0 0,1,0 1,1,0")
        self.fails(NoSolid, {}, "solid c q")
        self.fails(InvalidCorner, {"value": 4}, "cut c a 4")
        self.fails(InvalidCorner, {"value": 99}, "cut c b 99")
        self.fails(InvalidPosition, {"value": 4}, "raise c a 4")
        self.fails(InvalidPosition, {"value": 6}, "rolls b 6")
        self.fails(InvalidCorner, {"value": 4}, "trim c w 4")
        self.fails(InvalidCorner, {"value": 9}, "trim c q 9")
        self.fails(NoSolid, {}, "trim c q 0")
        self.fails(InvalidCorner, {"value": 8}, "tie c x 8 9")
        self.fails(InvalidCorner, {"value": 9}, "tie c x 0 9")
        self.fails(NoSolid, {}, "tie c q 0 2")
        self.fails(NotAcross, {}, "tie c w 0 1")
        self.fails(NotAcross, {}, "tie c x 0 0")
        self.fails(NotThreeJoined, {}, "faces q")
        self.fails(BadRecord, {"line": 0}, "read c x")
        self.fails(BadRecord, {"line": 1}, "read c websolids 1 web\nx\n")
        self.fails(BadRecord, {"line": 2}, "read c " + record_text(CUBE).replace("\n0 0 0\n", "\n00 0 0\n"))
        desk = filled()
        desk.do("web five 5: 0-1 0-2 0-3 0-4 1-2 1-3 1-4 2-3 2-4 3-4")
        self.fails(NotDrawn, {}, "faces five", desk)
        self.fails(NoSolid, {}, "solid c five", desk)
        pair = ("web", 2, ((0, 1),))
        for value in [map_of(CUBE), ("made", web_of(CUBE), CUBE), ("refused", pair, ("few", 2))]:
            self.fails(NoThing, {}, "read c " + record_text(value))

    def test_too_many_corners(self):
        desk = filled()
        desk.do("read t " + record_text(TWENTY))
        for command in ["polar c t", "cut c t 0", "raise c t 0"]:
            self.fails(TooMany, {"what": "corners", "limit": 20}, command, desk)
        desk.do("trace v t")
        self.fails(TooMany, {"what": "corners", "limit": 20}, "trim c v 0", desk)

    def test_names_and_deeds_too_many(self):
        names, deeds = {"what": "names", "limit": 16}, {"what": "deeds", "limit": 200}
        desk = Desk()
        for at in range(16):
            desk.do(f"web w{at} 3:")
        self.fails(TooMany, names, "web w16 3:", desk)
        self.fails(TooMany, names, "copy c w0", desk)
        self.fails(TooMany, names, "hull c " + FOUR_POINTS, desk)
        self.fails(BadText, {"position": 0}, "web w16 x", desk)
        self.fails(NameTaken, {"name": "w3"}, "web w3 3:", desk)
        self.fails(UnknownName, {"value": "none"}, "copy w16 none", desk)
        desk.do("drop w3")
        desk.do("web w16 3:")
        self.fails(TooMany, names, "web w3 3:", desk)
        for _ in range(91):
            desk.do("drop w0")
            desk.do("web w0 3: 0-1")
        self.same(len(desk), 200)
        self.fails(TooMany, deeds, "drop w0", desk)
        self.fails(TooMany, names, "web c 3:", desk)
        self.fails(BadText, {"position": 2}, "web c 3:x", desk)
        self.fails(UnknownName, {"value": "c"}, "drop c", desk)
        self.same(desk.do("show w0"), "3: 0-1")
        self.same([desk.do("undo"), desk.do("undo")], ["web w0 3: 0-1", "drop w0"])
        self.same([desk.do("redo"), desk.do("redo")], ["drop w0", "web w0 3: 0-1"])
        self.fails(TooMany, deeds, "drop w0", desk)
        desk.do("undo")
        desk.do("web c 3:")
        self.fails(TooMany, deeds, "drop c", desk)
        self.fails(NothingToRedo, {}, "redo", desk)
        self.same(len(desk.lines()), 200)

    def test_nothing_to_undo_or_redo(self):
        desk = Desk()
        self.fails(NothingToUndo, {}, "undo", desk)
        self.fails(NothingToRedo, {}, "redo", desk)
        desk.do("web w 3:")
        self.fails(NothingToRedo, {}, "redo", desk)
        desk.do("undo")
        self.fails(NothingToUndo, {}, "undo", desk)
        self.same(redone(desk), ["web w 3:"])


class GoingBackTest(Checking):

    def test_all_the_way_back_and_forth(self):
        desk, states = Desk(), []
        rows = ["hull a " + FOUR_POINTS, "cut b a 0", "raise c b 1", "trace w c", "solid s w", "drop a", "mirror a c",
                "polar p a",
                "copy q w", "trim r q 0", "drop w"]
        for row in rows:
            states.append(state(desk))
            desk.do(row)
        last = state(desk)
        for at in range(len(rows))[::-1]:
            self.same(desk.do("undo"), rows[at])
            self.same(state(desk), states[at])
            self.same(redone(desk), rows[at:])
        for at, row in enumerate(rows):
            self.same(state(desk), states[at])
            self.same(desk.do("redo"), row)
        self.same(state(desk), last)

    def test_a_deed_between(self):
        desk = filled()
        self.same([desk.do("undo"), desk.do("undo")], ["web q " + SQUARE, "trace x b"])
        for row in ("names", "show a", "size b"):
            desk.do(row)
        self.same(redone(desk), ["trace x b", "web q " + SQUARE])
        with self.assertRaises(NameTaken):
            desk.do("web a 3:")
        with self.assertRaises(BadText):
            desk.do("web c x")
        self.same(redone(desk), ["trace x b", "web q " + SQUARE])
        desk.do("web c 3:")
        self.same(redone(desk), [])
        self.refused(NothingToRedo, {}, desk.do, "redo")
        self.same(desk.lines()[-2:], ["trace w a", "web c 3:"])

    def test_rows(self):
        desk = Desk()
        self.same(desk.do_all(), [])
        self.same(desk.do_all("hull a " + FOUR_POINTS, "show a", "undo", "names", "redo", "names"),
                  ["-", "0,0,0 0,0,1 0,1,0 1,0,0\n0-1-2 0-2-3 0-3-1 1-3-2", "hull a " + FOUR_POINTS, "-",
                   "hull a " + FOUR_POINTS, "a"])
        ahead = state(desk)
        for rows, position, error in [
                (["cut b a 0", "cut c b 0", "cut d nothing 0"], 2, UnknownName), (["undo", "undo"], 1, NothingToUndo),
                (["undo", "web w 3:", "redo"], 2, NothingToRedo), (["x"], 0, InvalidCommand),
                (["names", None], 1, InvalidCommand),
                (["drop a", "drop a", "names"], 1, UnknownName), (["copy b a"] * 2, 1, NameTaken),
                (["undo", "redo", "redo"], 2, NothingToRedo)]:
            with self.assertRaises(CommandFailed) as caught:
                desk.do_all(*rows)
            self.same(caught.exception.position, position)
            self.assertIs(type(caught.exception.__cause__), error)
            self.same(state(desk), ahead)
            self.same(redone(desk), [])
        desk.do("undo")
        with self.assertRaises(CommandFailed):
            desk.do_all("web w 3:", "web w 3:")
        self.same(redone(desk), ["hull a " + FOUR_POINTS])
        self.new_list(Desk().do_all)

    def test_twins(self):
        desk = filled()
        desk.do("undo")
        twin = desk.twin()
        self.assertIs(type(twin), Desk)
        self.same(state(twin), state(desk))
        self.same(redone(twin), ["web q " + SQUARE])
        ahead = state(desk)
        twin.do_all("drop a", "drop b", "web q 3:")
        self.same(state(desk), ahead)
        self.same(redone(desk), ["web q " + SQUARE])
        other = state(twin)
        desk.do_all("redo", "undo", "undo", "undo")
        self.same(state(twin), other)
        self.same(twin.lines()[-1], "web q 3:")

    def test_lines_done_again(self):
        desk = filled()
        desk.do_all("cut c b 0", "solid s x", "undo", "trim d x 0")
        again = Desk.again(desk.lines())
        self.same(state(again), state(desk))
        self.same(redone(again), [])
        self.same(state(Desk.again(lines=tuple(desk.lines()))), state(desk))
        self.same(state(Desk.again([])), ([], {}, [], 0))
        self.same(state(desk.again(["web w 3:"])), (["w"], {"w": ("web", 3, ())}, ["web w 3:"], 1))

    def test_lines_that_are_none(self):
        for value in samples.junk() + ["web w 3:", {"web w 3:": 1}, range(3)]:
            if type(value) not in (list, tuple):
                self.refused(InvalidDeeds, {"position": None}, Desk.again, value)
                self.refused(InvalidDeeds, {"position": None}, Desk.again, lines=value)
        for value in [value for value in samples.junk() if not is_deed(value)] + ["undo", "redo", "names", "show w",
            "has w", "web w"]:
            self.refused(InvalidDeeds, {"position": 0}, Desk.again, [value])
            self.refused(InvalidDeeds, {"position": 2}, Desk.again, ["web w 3:", "web w 3:", value, None])
            self.refused(InvalidDeeds, {"position": 1}, Desk.again, ("drop x", value))
        for rows, position in [(["web w 3:", "web w 3:"], 1), (["drop x"], 0), (["web w 3:", "solid s w"], 1),
                               (["web w 3: 0-1-2"], 0)]:
            self.refused(CommandFailed, {"position": position}, Desk.again, rows)
            with self.assertRaises(CommandFailed) as caught:
                Desk.again(rows)
            self.assertIsInstance(caught.exception.__cause__, OWN)
        rows = ["web w 3:", "drop w"] * 100
        self.same(len(Desk.again(rows)), 200)
        self.refused(CommandFailed, {"position": 200}, Desk.again, rows + rows[:1])

    def test_not_iterated_over(self):
        with self.assertRaises(TypeError):
            list(filled())


class ByChanceTest(Checking):

    def test_what_is_kept_is_right(self):
        # Whatever row of commands: each solid is right, and has tells whether solid can be done.
        done, failed = 0, 0
        for seed in range(30):
            chance, desk = random.Random(seed), filled()
            for _ in range(40):
                names = desk.names() + ["c", "d", "e"]
                new, name, other = chance.choice(list("cdefgh")), chance.choice(names), chance.choice(names)
                corner, further = chance.randrange(9), chance.randrange(9)
                command = chance.choice([
                    f"cut {new} {name} {corner}", f"raise {new} {name} {corner}", f"mirror {new} {name}",
                    f"polar {new} {name}",
                    f"trace {new} {name}", f"solid {new} {name}", f"trim {new} {name} {corner}",
                    f"tie {new} {name} {corner} {further}",
                    f"copy {new} {name}", f"drop {name}", "undo", "redo", "undo", f"same {name} {other}",
                    f"web {new} " + EIGHT])
                self.yes(is_command(command))
                ahead = state(desk)
                try:
                    desk.do(command)
                    done += 1
                except OWN:
                    failed += 1
                    self.same(state(desk), ahead)
            self.same(state(Desk.again(desk.lines())), state(desk))
            for name in desk.names():
                thing = desk[name]
                if thing[0] == "solid":
                    self.assertTrue(looks_like_solid(thing))
                    continue
                twin = desk.twin()
                if len(desk.names()) < 16 and "z" not in desk:
                    if desk.do("has " + name) == "yes":
                        twin.do("solid z " + name)
                        self.assertEqual((len(twin["z"][1]), ties_of(twin["z"])), thing[1:])
                    else:
                        self.refused(NoSolid, {}, twin.do, "solid z " + name)
        self.assertGreater(min(done, failed), 200)
