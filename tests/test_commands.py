"""Tests of websolids.commands."""

import itertools
import random
import re

from tests import samples
from tests.checking import Checking
from tests.solidsamples import told
from tests.test_space import NO_POINTS
from websolids.commands import is_command, is_deed, point_words, ring_words
from websolids.errors import InvalidPoint, InvalidRing
from websolids.ratios import parse_ratio, ratio_text

DEEDS = """web NEW TEXT|hull NEW POINTS|solid NEW NAME|trace NEW NAME|polar NEW NAME|cut NEW NAME COUNT|raise NEW NAME COUNT|
mirror NEW NAME|trim NEW NAME COUNT|tie NEW NAME COUNT COUNT|read NEW TEXT|copy NEW NAME|drop NAME""".replace("\n", "").split("|")
OTHERS = """undo|redo|names|show NAME|has NAME|faces NAME|alike NAME NAME|size NAME|where NAME POINT|rests NAME|rolls NAME COUNT|
judged NAME|record NAME|same NAME NAME""".replace("\n", "").split("|")
FOUR_POINTS = "0,0,0 1,0,0 0,1,0 0,0,1"
LONG = ",".join(["123456789012"] * 3)
RIGHT = {
    "NEW": ["a", "w", "a1", "abcdefgh", "z9999999", "undo", "web"], "NAME": ["b", "x0", "hgfedcba", "names"],
    "COUNT": ["0", "1", "9", "10", "19", "20", "99"], "TEXT": ["x", " ", "  3:", "4: 0-1", "a b c", "\n",
                                                               "websolids 1 web\n1:\n", "%"],
    "POINT": ["0,0,0", "1/2,0,-3", "-1/2,-7,12/5", LONG, "-123456/654323,0,-999999999999", "1/99999999999,0,0"],
    "POINTS": [FOUR_POINTS, " ".join(["1/2,0,-3"] * 20), FOUR_POINTS + " 0,0,0", FOUR_POINTS + " 5,5,5 " + LONG],
}
WRONG = {
    "NEW": ["", "A", "aB", "1a", "9", "abcdefghi", "a-b", "a_b", "a.", "-", "a,b", "a\n", "\na", "a/b"],
    "COUNT": ["", "00", "01", "100", "007", "-1", "+1", "1.0", "a", "1a", "0x", " 1", "1 ", "1\n", "1/2", "1-2"],
    "TEXT": [""],
    "POINT": ["", "0,0", "0,0,0,0", "0,0,", ",0,0", "0, 0,0", "0 0 0", "1/1,0,0", "2/4,0,0", "0/3,0,0", "-0,0,0",
              "00,0,0", "01,0,0",
              "1.5,0,0", "+1,0,0", "1/0,0,0", "1/-2,0,0", "a,0,0", "0,0,0 ", "1234567890123,0,0", "0,0,-1234567890123",
              "0,1234567/7654321,0", "123456/1234567,0,0", "1/2/3,0,0", "--1,0,0", "(0,0,0)", "0;0;0", "0,0,0\n",
              "1/02,0,0", "-,0,0", "/2,0,0"],
}
WRONG["NAME"] = WRONG["NEW"]
WRONG["POINTS"] = ["", "0,0,0", "0,0,0 1,0,0 0,1,0", FOUR_POINTS + " ", " " + FOUR_POINTS, FOUR_POINTS.replace(" ", "  "),
                   " ".join(["0,0,0"] * 21), FOUR_POINTS + " 0,0", FOUR_POINTS.replace(" ", ";")]
WRONG["POINTS"] += [FOUR_POINTS + " " + point for point in WRONG["POINT"]]


def looked(value):
    """Whether any value is a command, and whether it is a deed, by patterns."""
    if type(value) is not str:
        return False, False
    name, count = "[a-z][a-z0-9]{0,7}", "(?:0|[1-9][0-9]?)"
    point = "(?:[-0-9/]+,[-0-9/]+,[-0-9/]+)"
    parts = {"NEW": name, "NAME": name, "COUNT": count, "TEXT": "(?s:.+)", "POINT": point,
             "POINTS": f"{point}(?: {point}){{3,19}}"}
    for at, row in enumerate(DEEDS + OTHERS):
        words = row.split(" ")
        if re.fullmatch(" ".join(words[:1] + [parts[word] for word in words[1:]]), value):
            right = "POINT" not in row or all([is_point_text(word) for word in value.split(" ")[2:]])
            return right, right and at < len(DEEDS)
    return False, False


def is_point_text(word):
    """Whether a word with three parts, of digits and signs, is a POINT as it is written."""
    for part in word.split(","):
        if len(re.findall("[0-9]", part)) > 12 or not re.fullmatch("-?[0-9]+(/[0-9]*[1-9][0-9]*)?", part):
            return False
        if ratio_text(parse_ratio(part)) != part:
            return False
    return True


class CommandsTest(Checking):

    def told(self, value):
        command, deed = looked(value)
        self.assertIs(is_command(value), command, value)
        self.assertIs(is_deed(value), deed, value)
        return command

    def test_each_word_with_right_parts(self):
        for row in DEEDS + OTHERS:
            words = row.split(" ")
            for parts in itertools.product(*[RIGHT[word] for word in words[1:]]):
                command = " ".join(words[:1] + list(parts))
                self.yes(is_command(command), command)
                self.assertIs(is_deed(command), row in DEEDS)
                self.assertTrue(self.told(command))

    def test_each_part_wrong(self):
        for row in DEEDS + OTHERS:
            words = row.split(" ")
            right = words[:1] + [RIGHT[word][0] for word in words[1:]]
            for at, word in enumerate(words[1:], start=1):
                for wrong in WRONG[word]:
                    command = " ".join(right[:at] + [wrong] + right[at + 1:])
                    if "TEXT" not in row or word == "TEXT" or " " not in wrong:
                        self.no(is_command(command), command)
                    self.told(command)

    def test_parts_left_out_doubled_and_blanks(self):
        for row in DEEDS + OTHERS:
            words = row.split(" ")
            right = words[:1] + [RIGHT[word][0] for word in words[1:]]
            command = " ".join(right)
            for at in range(len(right)):
                self.told(" ".join(right[:at] + right[at + 1:]))
                self.told(" ".join(right[:at + 1] + right[at:]))
                self.told(" ".join(right[:at] + [""] + right[at:]))
                if row not in ("web NEW TEXT", "read NEW TEXT", "hull NEW POINTS"):
                    self.no(is_command(" ".join(right[:at + 1] + right[at:])), command)
                    self.no(is_command(" ".join(right[:at] + [""] + right[at:])), command)
            for wrong in (" " + command, command.upper(), command[1:], "\n" + command, command.replace(" ", "")):
                self.assertIs(self.told(wrong), wrong == command)
            for wrong in (command + " ", command + "\n", command + " x", command + "\t"):
                self.assertIs(self.told(wrong), "TEXT" in row)
            if len(right) > 1:
                self.no(is_command(command.replace(" ", "  ", 1)), command)
                self.no(is_command(words[0]))
                self.no(is_command(words[0] + " "))

    def test_names_whatever_is_kept(self):
        for name in ("a", "undo", "web", "z9", "abcdefgh"):
            self.yes(is_command("show " + name))
            self.yes(is_deed("copy " + name + " " + name))
        for row in ["cut b a 0", "where a 1/2,0,-3", "web w x", "same a a", "tie a a 0 0", "hull a " + FOUR_POINTS]:
            self.yes(is_command(row))

    def test_known(self):
        self.same([is_command("cut b a 0"), is_command("cut b a 00"), is_command("where a 1/2,0,-3"),
                   is_command("where a 1/2,0"),
                   is_command("hull a 0,0,0 1,0,0 0,1,0"), is_command("web w x"), is_deed("show w")],
                  [True, False, True, False, False, True, False])
        self.yes(is_command(value="undo"))
        self.no(is_deed(value="undo"))
        self.no(is_deed("redo"))
        self.yes(is_deed("drop a"))
        self.no(is_command("undo "))
        self.no(is_command("undo x"))
        self.no(is_command("do a"))
        self.no(is_command("Web w x"))

    def test_by_chance(self):
        chance, rows = random.Random(5), DEEDS + OTHERS
        found = {True: 0, False: 0}
        for _ in range(3000):
            words = chance.choice(rows).split(" ")
            text = " ".join(words[:1] + [chance.choice(RIGHT[word]) for word in words[1:]])
            at = chance.randrange(len(text))
            sign = chance.choice("0123456789abz -,/\nA")
            text = chance.choice([text[:at] + text[at + 1:], text[:at] + sign + text[at:], text[:at] + sign + text[at + 1:]])
            found[self.told(text)] += 1
        self.assertGreater(min(found.values()), 500)

    def test_any_value(self):
        for value in samples.junk() + [["undo"], ("undo",), b"undo", {"undo": 1}]:
            self.no(is_command(value))
            self.no(is_deed(value))


class WordsTest(Checking):

    def test_points(self):
        self.same(point_words(((1, 2), (0, 1), (-3, 1))), "1/2,0,-3")
        self.same(point_words(point=told((0, 0, 0))), "0,0,0")
        long = 10 ** 59 + 1
        self.same(point_words(((long, 2), (-1, long), (0, 1))), f"{long}/2,-1/{long},0")
        self.same(point_words(((10 ** 5000, 1), (0, 1), (0, 1))), "1" + "0" * 5000 + ",0,0")
        for value in NO_POINTS + samples.junk():
            self.refused(InvalidPoint, {"value": value}, point_words, value)
            self.refused(InvalidPoint, {"value": value}, point_words, point=value)

    def test_rings(self):
        self.same(ring_words((0, 2, 11)), "0-2-11")
        self.same(ring_words(ring=(5, 4, 3, 0, 99)), "5-4-3-0-99")
        self.same(ring_words(tuple(range(40))), "-".join([str(at) for at in range(40)]))
        wrong = [value for value in samples.junk() if value != (0, 1, 2) or type(value) is not tuple]
        for value in wrong + [(0, 1), (0, 1, 1), (0, 1, 0), (-1, 0, 1), (0, True, 2), (False, 1, 2), [0, 1, 2],
                              (0, 1, "2"), (0, 1, None),
                              ((0, 1, 2),), (0, 1, (2,)), "012", (0, 1, 2, 2)]:
            self.refused(InvalidRing, {"value": value}, ring_words, value)
            self.refused(InvalidRing, {"value": value}, ring_words, ring=value)
