"""Tests of websolids.records."""

import random
import re
from fractions import Fraction

from tests import looks, samples, solidsamples
from tests.checking import Checking
from tests.solidlooks import looks_like_solid, spoilt, ties_of
from tests.solidsamples import told
from tests.test_maps import TAIL, TENT, TIE, some_maps
from tests.test_maps import spoilt as spoilt_charts
from tests.test_refusals import PAPERS, bent, looked_at
from tests.test_solids import CUBE, NO_SOLIDS
from tests.test_solids import TENT as PIECE
from websolids.errors import BadRecord, InvalidText, InvalidValue
from websolids.hulls import hull
from websolids.made import solid_of
from websolids.records import check_of, judged, parse_record, record_text
from websolids.solids import web_of
from websolids.webs import is_web

FOUR, PAIR = samples.full_web(4), ("web", 2, ((0, 1),))
WORDS = ("web", "map", "solid", "made", "refused")
NUMBER = "(?:0|[1-9][0-9]*)"


def values():
    """Values with records, of each word."""
    webs = [PAIR, FOUR, ("web", 1, ()), ("web", 20, ()), samples.cube(), samples.tree(12, 1), samples.full_web(11)]
    found = webs + [TENT, TIE, TAIL] + some_maps()[7::9] + [PIECE, CUBE] + list(solidsamples.solids()[2:14:3])
    found += [("refused", web, paper) for web, paper in PAPERS]
    for web in (FOUR, samples.cube(), solidsamples.wheel(6), samples.triangulated(20, 2), solidsamples.twelve_fives()):
        found.append(("made", web, solid_of(web)))
    return found


def looked_check(text):
    """The check of a text."""
    total = 0
    for at in range(len(text)):
        total = (total + ord(text[at]) * (at + 1)) % 65521
    return total


def ended(lines):
    """Lines as a text, with a last line that is right."""
    ahead = "".join([line + "\n" for line in lines])
    return f"{ahead}end {len(lines)} {looked_check(ahead)}\n"


def is_ratio_text(word):
    """Whether a word is the text of a RATIO, of numbers that are read."""
    if not re.fullmatch(f"-?{NUMBER}(/{NUMBER})?", word) or max([len(part.strip("-")) for part in word.split("/")]) > 4000:
        return False
    parts = [int(part) for part in word.split("/")]
    return len(parts) == 1 and word != "-0" or len(parts) == 2 and parts[1] > 1 and str(Fraction(*parts)) == word


def is_row(line, below, fewest):
    """Whether a line tells so many numbers at least, all less than one."""
    if not re.fullmatch(f"{NUMBER}( {NUMBER})*", line) or max([len(word) for word in line.split(" ")]) > 4000:
        return False
    row = [int(word) for word in line.split(" ")]
    return max(row) < below and len(row) >= fewest


def is_web_line(line):
    """Whether a line is the text of a web."""
    if not re.fullmatch(f"{NUMBER}:( {NUMBER}-{NUMBER})*", line) or not 1 <= int(line.split(":")[0]) <= 20:
        return False
    ties = [tuple([int(part) for part in pair.split("-")]) for pair in line.split(" ")[1:]]
    return is_web(("web", int(line.split(":")[0]), tuple(ties)))


def solid_wants(line):
    """The looks that the lines behind the first one of a solid must pass; None if this one is wrong."""
    if not re.fullmatch(f"solid {NUMBER} {NUMBER}", line):
        return None
    many, faces = [int(word) for word in line.split(" ")[1:]]
    if not 4 <= many <= 20 or not 4 <= faces <= 36:
        return None
    corners = [lambda line: len(line.split(" ")) == 3 and all([is_ratio_text(word) for word in line.split(" ")])] * many
    return corners + [lambda line: is_row(line, many, 3)] * faces


def paper_wants(line, many):
    """The looks that the lines behind the first one of a paper must pass; None if this one is wrong."""
    if re.fullmatch(f"few {NUMBER}", line):
        return []
    if re.fullmatch(f"parts( {NUMBER})* /( {NUMBER})*", line):
        return [] if all([int(word) < many for word in line.split(" ")[1:] if word != "/"]) else None
    for kind, heads, ways in (("five", 5, 10), ("wells", 6, 9)):
        row = line[len("barred " + kind):]
        if line.startswith("barred " + kind) and re.fullmatch(f"( {NUMBER}){{{heads}}}", row):
            return [lambda line: is_row(line, many, 2)] * ways if is_row(row[1:], many, heads) else None
    return None


def first_bad(text):
    """The first bad line of a text, as [159] tells, but for what is told at last; None if all lines are fine."""
    lines = text.split("\n")
    word = lines[0][len("websolids 1 "):]
    if len(lines) == 1 or lines[0] != "websolids 1 " + word or word not in WORDS:
        return 0
    at, wants = 1, []
    if word != "solid":
        if len(lines) < 3 or not is_web_line(lines[1]):
            return 1
        at, many = 2, int(lines[1].split(":")[0])
    if word == "map":
        wants = [lambda line: is_row(line, many, 1)] * many
    if word in ("solid", "made", "refused"):
        if at + 1 >= len(lines):
            return at
        wants = paper_wants(lines[at], many) if word == "refused" else solid_wants(lines[at])
        if wants is None:
            return at
        at += 1
    for want in wants:
        if at + 1 >= len(lines) or not want(lines[at]):
            return at
        at += 1
    ahead = "".join([line + "\n" for line in lines[:at]])
    if at + 1 >= len(lines) or lines[at] != f"end {at} {looked_check(ahead)}":
        return at
    return None if lines[at + 1:] == [""] else at + 1


def looked_judged(value):
    """What is told of any value."""
    if type(value) is not tuple or not value or type(value[0]) is not str or value[0] not in WORDS:
        return ("bad", "value")
    word, right = value[0], False
    if word == "web":
        right = is_web(value)
    elif word == "map":
        right = len(value) == 3 and is_web(value[1]) and looks.looks_like_map(value)
    elif word == "solid":
        right = looks_like_solid(value)
    elif len(value) == 3 and is_web(value[1]) and word == "made":
        right = looks_like_solid(value[2]) and (len(value[2][1]), ties_of(value[2])) == value[1][1:]
    elif len(value) == 3 and is_web(value[1]):
        right = looked_at(value[1], value[2]) is None
    return ("ok" if right else "bad", word)


def changed_texts(text, chance):
    """Texts that come of a text by a character changed, left out, put in, or by a cut, anywhere."""
    signs = "0123456789 -/:\nabdefilmnoprstuvw"
    found = []
    for _ in range(12):
        at = chance.randrange(len(text))
        sign = chance.choice(signs)
        found += [text[:at] + sign + text[at + 1:], text[:at] + text[at + 1:], text[:at] + sign + text[at:], text[:at]]
    return found


def changed_lines(text, chance):
    """Texts that come of a text by a line left out, doubled, put elsewhere."""
    lines, found = text.split("\n")[:-1], []
    for _ in range(4):
        at, other = chance.randrange(len(lines)), chance.randrange(len(lines))
        rest = lines[:at] + lines[at + 1:]
        found += [rest, lines[:at] + lines[at:at + 1] + lines[at:], rest[:other] + [lines[at]] + rest[other:]]
    return ["".join([line + "\n" for line in rows]) for rows in found]


class RecordsTest(Checking):

    def read(self, text, kept=None):
        """Looks at how a text is read; the first bad line, None if it is read."""
        bad = first_bad(text)
        try:
            value = parse_record(text)
        except BadRecord as error:
            if bad is None:
                # All lines are fine: so it is what they tell that is not right.
                self.same(error.line, 1)
                return 1
            self.same(error.line, bad)
            return bad
        self.assertIsNone(bad, text)
        self.same(record_text(value), text)
        self.assertEqual(judged(value)[0], "ok")
        return None

    def test_written_and_read(self):
        found = {}
        for value in values():
            text = record_text(value)
            self.same(judged(value), ("ok", value[0]))
            self.same(parse_record(text), value)
            self.same(record_text(value=value), text)
            self.same(parse_record(text=text), value)
            self.assertIsNone(self.read(text))
            lines = text.split("\n")
            self.same(text, ended(lines[:-2]))
            found[value[0]] = found.get(value[0], 0) + 1
        self.assertEqual(sorted(found), sorted(WORDS))
        self.assertGreater(min(found.values()), 4)

    def test_texts_changed_a_little(self):
        bads = {}
        for at, value in enumerate(values()):
            chance, text = random.Random(at), record_text(value)
            for other in changed_texts(text, chance) + changed_lines(text, chance):
                bad = self.read(other)
                self.assertIs(bad is None, other == text)
                bads[bad] = bads.get(bad, 0) + 1
        self.assertGreater(min([bads[line] for line in (0, 1, 2, 3, 4)]), 30, bads)

    def test_the_check_made_right_again(self):
        bads = {}
        for at, value in enumerate(values()):
            chance, text = random.Random(at + 70), record_text(value)
            for other in changed_texts(text, chance) + changed_lines(text, chance):
                for kept in (other.split("\n")[:-2], other.split("\n")[:-1]):
                    bad = self.read(ended(kept))
                    bads[bad] = bads.get(bad, 0) + 1
        self.assertGreater(min([bads[line] for line in (None, 0, 1, 2, 3, 4)]), 30, bads)

    def test_known_texts(self):
        texts = {
            PAIR: "websolids 1 web\n2: 0-1\n", ("web", 1, ()): "websolids 1 web\n1:\n",
            TIE: "websolids 1 map\n2: 0-1\n1\n0\n", TAIL: "websolids 1 map\n4: 0-1 0-2 0-3 1-2\n1 2 3\n0 2\n0 1\n0\n",
            PIECE: "websolids 1 solid\nsolid 4 4\n0 0 0\n0 0 1\n0 1 0\n1 0 0\n0 1 2\n0 2 3\n0 3 1\n1 3 2\n",
            ("made", FOUR, PIECE): "websolids 1 made\n4: 0-1 0-2 0-3 1-2 1-3 2-3\nsolid 4 4\n0 0 0\n0 0 1\n0 1 0\n1 0 0\n"
                                   "0 1 2\n0 2 3\n0 3 1\n1 3 2\n",
            ("refused", PAIR, ("few", 2)): "websolids 1 refused\n2: 0-1\nfew 2\n",
            ("refused", samples.ring_web(4),
             ("parts", (0, 2), (1,))): "websolids 1 refused\n4: 0-1 0-3 1-2 2-3\nparts 0 2 / 1\n",
            ("refused", ("web", 5, ()), ("parts", (), (0, 1, 3))): "websolids 1 refused\n5:\nparts / 0 1 3\n",
            ("refused",) + PAPERS[2]: "websolids 1 refused\n6: 0-3 0-4 0-5 1-3 1-4 1-5 2-3 2-4 2-5\nbarred wells 0 1 2 3 4 5\n"
                                      "0 3\n0 4\n0 5\n1 3\n1 4\n1 5\n2 3\n2 4\n2 5\n",
        }
        for value, ahead in texts.items():
            self.same(record_text(value), ended(ahead.split("\n")[:-1]))
        half = hull([told((0, 0, 0)), told((Fraction(-3, 2), 0, 1)), told((0, Fraction(1, 3), 0)), told((1, 1, 1))])
        self.assertIn("\n-3/2 0 1\n", record_text(half))
        self.assertIn("\n0 1/3 0\n", record_text(half))

    def test_first_bad_lines(self):
        web = ["websolids 1 web", "2: 0-1"]
        tent = record_text(PIECE).split("\n")[:-2]
        chart = record_text(TAIL).split("\n")[:-2]
        wells = record_text(("refused",) + PAPERS[2]).split("\n")[:-2]
        few = ["websolids 1 refused", "2: 0-1", "few 2"]
        told_lines = [
            (0, ["websolids 1 Web"] + web[1:]), (0, ["websolids 1"] + web[1:]), (0, ["websolids 2 web"] + web[1:]),
            (0, [""]), (0, web[1:]),
            (0, ["websolids 1 web "] + web[1:]), (0, ["websolids  1 web"] + web[1:]), (0, ["websolids 1 "] + web[1:]),
            (0, []),
            (1, web[:1] + ["2: 1-0"]), (1, web[:1] + ["2:0-1"]), (1, web[:1] + ["2: 0-1 "]), (1, web[:1] + [" 2: 0-1"]),
            (1, web[:1] + ["21:"]), (1, web[:1] + ["0:"]), (1, web[:1] + ["02: 0-1"]), (1, web[:1] + ["3: 1-2 0-1"]),
            (1, web[:1] + [""]),
            (1, web[:1] + ["2: 0-1 0-1"]), (1, web[:1] + ["2: 0-2"]), (1, web[:1] + ["2:  0-1"]), (1, web[:1]),
            (2, web + [""]), (2, web * 2),
            (1, tent[:1] + ["solid 3 4"] + tent[2:]), (1, tent[:1] + ["solid 21 4"] + tent[2:]),
            (1, tent[:1] + ["solid 4 3"] + tent[2:]),
            (1, tent[:1] + ["solid 4 37"] + tent[2:]), (1, tent[:1] + ["solid 4 04"] + tent[2:]),
            (1, tent[:1] + ["solid 4"] + tent[2:]),
            (1, tent[:1] + ["solid 4 4 4"] + tent[2:]), (1, tent[:1] + ["Solid 4 4"] + tent[2:]),
            (1, tent[:1] + ["solid -4 4"] + tent[2:]),
            (10, tent[:1] + ["solid 5 4"] + tent[2:]), (10, tent[:1] + ["solid 4 5"] + tent[2:]), (9, tent[:5] + tent[6:]),
            (9, tent[:6] + tent[7:]), (10, tent + ["0 1 2"]), (2, tent[:2] + ["0 0"] + tent[3:]),
            (2, tent[:2] + ["0 0 0 0"] + tent[3:]),
            (2, tent[:2] + ["0 0 00"] + tent[3:]), (2, tent[:2] + ["0 0 -0"] + tent[3:]),
            (2, tent[:2] + ["0 0 0/1"] + tent[3:]),
            (2, tent[:2] + ["0 2/4 0"] + tent[3:]), (2, tent[:2] + ["1/0 0 0"] + tent[3:]),
            (2, tent[:2] + ["1.5 0 0"] + tent[3:]),
            (2, tent[:2] + ["0  0 0"] + tent[3:]), (2, tent[:2] + ["0 0 0 "] + tent[3:]),
            (2, tent[:2] + ["1/-2 0 0"] + tent[3:]),
            (2, tent[:2] + ["1/2/3 0 0"] + tent[3:]), (2, tent[:2] + ["+1 0 0"] + tent[3:]),
            (2, tent[:2] + ["1/ 0 0"] + tent[3:]),
            (2, tent[:2] + ["--1 0 0"] + tent[3:]), (2, tent[:2] + ["- 0 0"] + tent[3:]),
            (2, tent[:2] + ["/2 0 0"] + tent[3:]),
            (6, tent[:6] + ["0 1 4"] + tent[7:]), (6, tent[:6] + ["0 1"] + tent[7:]), (6, tent[:6] + ["0 1 02"] + tent[7:]),
            (6, tent[:6] + [""] + tent[7:]), (6, tent[:6] + ["0 1 -2"] + tent[7:]), (1, tent[:6] + ["0 1 3"] + tent[7:]),
            (1, tent[:6] + ["1 2 0"] + tent[7:]), (1, tent[:6] + ["0 0 0"] + tent[7:]),
            (1, tent[:6] + ["0 1 2 3"] + tent[7:]),
            (1, tent[:2] + ["1 1 1"] + tent[3:]), (1, tent[:6] + [tent[7], tent[6]] + tent[8:]),
            (2, chart[:2] + [""] + chart[3:]),
            (2, chart[:2] + ["1 2 4"] + chart[3:]), (1, chart[:2] + ["2 1 3"] + chart[3:]),
            (1, chart[:2] + ["1"] + chart[3:]),
            (1, chart[:2] + ["1 1 1 1 1 1 1"] + chart[3:]), (5, chart[:5]), (6, chart + ["0"]),
            (1, ["websolids 1 map", "1:", "0"]),
            (1, ["websolids 1 map", "2:", "0", "0"]), (2, few[:2] + ["few 02"]), (2, few[:2] + ["few -2"]),
            (2, few[:2] + ["few"]),
            (1, few[:2] + ["few 3"]), (1, few[:2] + ["few 99999999999999999999"]), (2, few[:2] + ["few 2 2"]),
            (2, few[:2] + ["Few 2"]),
            (2, few[:2]), (3, few + ["few 2"]), (1, few[:2] + ["parts / 0"]), (2, few[:2] + ["parts"]),
            (1, few[:2] + ["parts /"]),
            (1, few[:2] + ["parts 0 1 0 1 / 1 1 1"]), (2, few[:2] + ["parts 0 2 / 1"]), (2, few[:2] + ["parts 0 /1"]),
            (2, few[:2] + ["parts / / 0"]),
            (2, few[:2] + ["parts 0  / 1"]), (2, few[:2] + ["parts / 2"]), (2, few[:2] + ["parts / 0 "]),
            (2, few[:2] + ["barred five 0 1"]),
            (2, few[:2] + ["barred six 0 1"]), (2, few[:2] + ["barred"]),
            (2, wells[:2] + ["barred wells 0 1 2 3 4"] + wells[3:]),
            (2, wells[:2] + ["barred wells 0 1 2 3 4 6"] + wells[3:]),
            (2, wells[:2] + ["barred five 0 1 2 3 4 5"] + wells[3:]),
            (12, wells[:2] + ["barred five 0 1 2 3 4"] + wells[3:]),
            (1, wells[:2] + ["barred wells 0 1 2 5 4 3"] + wells[3:]),
            (3, wells[:3] + ["0"] + wells[4:]), (3, wells[:3] + ["0 6"] + wells[4:]),
            (1, wells[:3] + ["0 1 2 3"] + wells[4:]),
            (11, wells[:11]), (12, wells + ["0 3"]),
            (1, ["websolids 1 refused"] + record_text(FOUR).split("\n")[1:2] + ["parts 0 1 / 2"]),
            (2, ["websolids 1 made"] + web[1:] + ["few 2"]), (2, ["websolids 1 refused"] + web[1:] + tent[1:]),
            (1, ["websolids 1 made"] + web[1:] + tent[1:]),
        ]
        for line, lines in told_lines:
            self.refused(BadRecord, {"line": line}, parse_record, ended(lines))
            self.assertEqual(self.read(ended(lines)), line, lines)

    def test_ends(self):
        text = record_text(PAIR)
        lines = text.split("\n")
        check = int(lines[2].split(" ")[2])
        wrong = {0: ["", "w", "websolids 1 web"], 1: [lines[0] + "\n", lines[0] + "\n2: 0-1", lines[0] + "\n\n\n",
                                                      "websolids 1 web\n2"],
                 2: [text[:-1], text[:-3], "\n".join(lines[:2]) + "\n", text + "", text.replace("end 2", "end 3"),
                     text.replace("end 2", "end 02"), text.replace("end 2", "End 2"), text.replace("end 2", "end  2"),
                     text.replace(f" {check}\n", f" {check + 1}\n"), text.replace(f" {check}\n", f" {check + 65521}\n"),
                     text.replace(f" {check}\n", f" 0{check}\n"), text.replace(f" {check}\n", f" {check} \n"),
                     text.replace(f" {check}\n", "\n"), text.replace("end 2 ", "end ")],
                 3: [text + "\n", text + "x", text + "end 2 1\n", text + text, text + " ", text + "\n\n"]}
        for line, rows in wrong.items():
            for row in rows:
                if row != text:
                    self.refused(BadRecord, {"line": line}, parse_record, row)
                    self.assertEqual(self.read(row), line)

    def test_many_digits(self):
        for digits, right in [(61, True), (3999, True), (4000, True), (4001, False), (4400, False), (9000, False)]:
            number = 10 ** digits - 1 if digits < 4300 else 10 ** (digits - 1)
            for part in ((number, 1), (-number, 1), (1, number)):
                solid = ("solid", PIECE[1][:3] + ((part if part != (-number, 1) else (number, 1), (0, 1), (0, 1)),),
                         PIECE[2])
                if part == (-number, 1):
                    solid = ("solid", ((part, part, part),) + PIECE[1][1:], PIECE[2])
                text = record_text(solid)
                if right:
                    self.same(parse_record(text), solid)
                else:
                    line = 2 if part == (-number, 1) else 5
                    self.refused(BadRecord, {"line": line}, parse_record, text)
        few = ["websolids 1 refused", "2: 0-1"]
        self.refused(BadRecord, {"line": 1}, parse_record, ended(few + ["few " + "9" * 4000]))
        self.refused(BadRecord, {"line": 2}, parse_record, ended(few + ["few " + "9" * 4001]))
        self.refused(BadRecord, {"line": 2}, parse_record, ended(few + ["parts / " + "9" * 4001]))
        self.refused(BadRecord, {"line": 1}, parse_record, ended(["websolids 1 web", "9" * 5000 + ":"]))
        self.refused(BadRecord, {"line": 1}, parse_record, ended(["websolids 1 solid", "solid 4 " + "9" * 5000]))

    def test_what_is_written_is_judged(self):
        wrong = samples.junk() + samples.no_webs() + NO_SOLIDS + spoilt_charts(TENT) + [
            ("made", FOUR, CUBE), ("refused", FOUR, ("few", 4)), ("refused", PAIR, ("few", 3)), ["web", 2, ((0, 1),)],
            ("few", 2)]
        for value in wrong:
            if looked_judged(value)[0] == "bad":
                self.refused(InvalidValue, {"value": value}, record_text, value)
                self.refused(InvalidValue, {"value": value}, record_text, value=value)

    def test_texts_are_looked_at(self):
        for value in [value for value in samples.junk() if type(value) is not str] + [["websolids 1 web"],
            (record_text(PAIR),)]:
            self.refused(InvalidText, {"value": value}, parse_record, value)
            self.refused(InvalidText, {"value": value}, parse_record, text=value)
            self.refused(InvalidText, {"value": value}, check_of, value)
            self.refused(InvalidText, {"value": value}, check_of, text=value)
        for text in [value for value in samples.junk() if type(value) is str]:
            self.refused(BadRecord, {"line": 0}, parse_record, text)

    def test_checks(self):
        self.same([check_of("ab"), check_of(""), check_of(text="a"), check_of("\n")], [293, 0, 97, 10])
        chance = random.Random(1)
        for many in list(range(20)) + [100, 1000, 19000]:
            text = "".join([chance.choice("\n !09az~") for _ in range(many)])
            self.same(check_of(text), looked_check(text))
        self.assertNotEqual(check_of("ab"), check_of("ba"))


class JudgedTest(Checking):

    def told(self, value):
        want = looked_judged(value)
        self.same(judged(value), want)
        self.same(judged(value=value), want)
        return want

    def test_any_value(self):
        for value in samples.junk() + samples.no_webs() + NO_SOLIDS + values() + spoilt_charts(TENT) + spoilt(CUBE):
            self.told(value)
            for word in WORDS:
                self.told((word, value))
                self.told((word, value, value))
                self.told((word, FOUR, value))
                self.told((word, value, PIECE))
                self.told((word, PAIR, ("few", value)))
            self.told((value, PAIR, ("few", 2)))
            self.told([value, PAIR, ("few", 2)])

    def test_words(self):
        self.same([judged(PAIR), judged(("refused", PAIR, ("few", 2))), judged(("refused", PAIR, ("few", 3))), judged("web"),
                   judged(("solid", ()))], [("ok", "web"), ("ok", "refused"), ("bad", "refused"), ("bad", "value"),
                                            ("bad", "solid")])
        for word in WORDS:
            self.same(judged((word,)), ("bad", word))
            self.same(judged([word]), ("bad", "value"))
            self.same(judged((word.upper(),)), ("bad", "value"))
            self.same(judged((word.encode(), 1)), ("bad", "value"))
            self.same(judged(word), ("bad", "value"))
        for value in [(), None, ("few", 2), ("parts", (0,), (1,)), ((),), (("web",),), (None, 1), (["web"], 1)]:
            self.same(judged(value), ("bad", "value"))

    def test_made_and_refused(self):
        found = {}
        for seed, (web, paper) in enumerate(PAPERS):
            chance = random.Random(seed)
            for other, _ in PAPERS:
                self.told(("refused", other, paper))
            for _ in range(40):
                word = self.told(("refused", web, bent(paper, chance)))
                found[word] = found.get(word, 0) + 1
        for solid in solidsamples.solids()[:9]:
            web = web_of(solid)
            self.same(self.told(("made", web, solid)), ("ok", "made"))
            for value in spoilt(solid)[::4] + [PIECE, CUBE]:
                word = self.told(("made", web, value))
                found[word] = found.get(word, 0) + 1
            self.same(self.told(("made", web, solid, 1)), ("bad", "made"))
            self.same(self.told(("refused", web, solid)), ("bad", "refused"))
        self.assertEqual(len(found), 4, found)
