"""Tests of websolids.webtexts."""

import itertools
import re

from tests import samples
from tests.checking import Checking
from websolids.errors import BadText, InvalidText, InvalidWeb
from websolids.webtexts import parse_web, web_text

COUNT = "(?:0|[1-9][0-9]*)"
TIE = f"(?: +{COUNT}-{COUNT})"
FORM = re.compile(f" *{COUNT} *:{TIE}* *")
BEGUN = re.compile(f" *(?:{COUNT} *(?::{TIE}*(?: *| +{COUNT}-?| +{COUNT}-{COUNT}))?)?")


def wrong_by_form(text):
    """The place of the first character that can't stand by the form alone, None if all can."""
    for at in range(len(text)):
        if not BEGUN.fullmatch(text[:at + 1]):
            return at
    return None


def wrong_counts(text):
    """The places of COUNTS that can't be, of a text in which all characters can stand."""
    places = [(found.start(), int(found.group()), text[:found.start()]) for found in re.finditer("[0-9]+", text)]
    wrong, ties, many = [], [], 21
    for start, told, ahead in places:
        if ":" not in ahead:
            many = told
            wrong += [start] * (not 1 <= told <= 20)
        elif not ahead.endswith("-"):
            first = told
            wrong += [start] * (told >= many)
        else:
            tie = {first, told}
            wrong += [start] * (told >= many or told == first or tie in ties or len(ties) == 60)
            ties.append(tie)
    return wrong


def read(text):
    """The web that is read, or the wrong place."""
    place = wrong_by_form(text)
    # Behind a 0 no digit can stand: so what is ahead of a character that can't stand ends with a whole COUNT.
    counts = wrong_counts(text if place is None else text[:place])
    if counts or place is not None:
        return min(counts + [len(text) if place is None else place])
    if not FORM.fullmatch(text):
        return len(text)
    told = [int(digits) for digits in re.findall("[0-9]+", text)]
    return samples.web_with(told[0], list(zip(told[1::2], told[2::2])))


class WebTextTest(Checking):

    def test_texts(self):
        self.same(web_text(("web", 4, ((0, 1), (1, 2), (2, 3)))), "4: 0-1 1-2 2-3")
        self.same(web_text(("web", 3, ())), "3:")
        self.same(web_text(web=("web", 20, ((9, 10), (18, 19)))), "20: 9-10 18-19")

    def test_what_is_written_is_read(self):
        for web in samples.small_webs() + samples.all_webs(5) + samples.large_webs():
            text = web_text(web)
            self.same(text, f"{web[1]}:" + "".join([f" {a}-{b}" for a, b in web[2]]))
            self.same(parse_web(text), web)
            turned = f"  {web[1]} : " + "".join([f"   {b}-{a}" for a, b in web[2][::-1]]) + "  "
            self.same(parse_web(text=turned), web)

    def test_refuses_no_webs(self):
        for value in samples.no_webs():
            self.refused(InvalidWeb, {"value": value}, web_text, value)
            self.refused(InvalidWeb, {"value": value}, web_text, web=value)


class ParseWebTest(Checking):

    def wrong(self, told):
        for text, place in told.items():
            self.refused(BadText, {"position": place}, parse_web, text)
            self.refused(BadText, {"position": place}, parse_web, text=text)

    def looked_at(self, text):
        want = read(text)
        if isinstance(want, tuple):
            self.same(parse_web(text), want)
        else:
            self.refused(BadText, {"position": want}, parse_web, text)

    def test_what_is_read(self):
        told = {" 3 :  1-0 2-1 ": ("web", 3, ((0, 1), (1, 2))), "1:": ("web", 1, ()), "1:   ": ("web", 1, ()),
                "   20   :": ("web", 20, ()), "2: 1-0": ("web", 2, ((0, 1),)), "2 : 0-1": ("web", 2, ((0, 1),)),
                "12: 11-10 2-1 10-0": ("web", 12, ((0, 10), (1, 2), (10, 11)))}
        for text, web in told.items():
            self.same(parse_web(text), web)
            self.same(parse_web(text=text), web)

    def test_wrong_by_the_form(self):
        self.wrong({"x": 0, "-1:": 0, ":": 0, " :": 1, "3;": 1, "3 3:": 2, "3.": 1, "3\n:": 1, "\n3:": 0, "3:\n": 2,
                    "3:0-1": 2, "3:x": 2, "3: x": 3, "3: -": 3, "3: 0 -1": 4, "3: 0- 1": 5, "3: 0-x": 5, "3: 0--1": 5,
                    "3: 0:": 4, "3: 0-1,": 6, "3: 0-1-2": 6, "3: 0-1:": 6, "3::": 2, "3: :": 3, "3: 0-1 ,": 7,
                    "3: 0-1\n": 6, "3: 0-1 1-2 x": 11, "+3:": 0, "3: 0_1": 4, "3: 01-2": 4, "12: 1-02": 7})

    def test_a_count_that_is_no_number_of_corners(self):
        self.wrong({"0:": 0, "21:": 0, "  21 :": 2, "100: 0-1": 0, "0": 0, "21": 0, " 99": 1, "0: 0-1": 0,
                    "2000: ": 0, "9" * 5000 + ":": 0})

    def test_a_count_that_is_no_corner(self):
        self.wrong({"3: 3-0": 3, "3: 0-3": 5, "3: 0-1  4-1": 8, "3: 0-1 1-20": 9, "1: 0-1": 5, "20: 20-1": 4,
                    "20: 1-20": 6, "3: 3": 3, "3: 5-": 3, "3: 0-3 ": 5, "3: 0-" + "1" * 5000: 5, "3: " + "2" * 5000: 3})

    def test_a_count_that_is_the_other_corner(self):
        self.wrong({"3: 0-0": 5, "3: 0-1 2-2": 9, "20: 19-19": 7, "3: 1-1 ": 5, "1: 0-0": 5, "13: 1-1": 6})

    def test_a_tie_that_was_told_already(self):
        self.wrong({"3: 0-1 0-1": 9, "3: 0-1 1-0": 9, "3: 0-1 1-2   0-1 ": 15, "20: 10-19 2-1 19-10": 17,
                    "12: 0-1 0-1": 10})

    def test_a_count_that_is_wrong_and_a_digit_that_cant_stand_behind_it(self):
        self.wrong({"01:": 0, "00:": 0, "  02: 0-1": 2, "012": 0, "2: 0-01": 5, "4:   0-03 1-2": 7, "3: 0-1 1-01": 9,
                    "3: 0-1 1-00": 9})

    def test_a_count_0_that_is_right_and_a_digit_behind_it(self):
        self.wrong({"2: 00-1": 4, "2: 1-00": 6, "3: 0-1 2-03": 10, "3: 0-1 02-1": 8, "12: 011-1": 5, "10:00-1": 3})

    def test_a_wrong_count_ahead_of_a_wrong_character(self):
        self.wrong({"99: x": 0, "3: 5x": 3, "3: 0-5x": 5, "3: 0-1 1-0x": 9, "21 x": 0, "3: 1-1-": 5, "0x": 0})

    def test_the_61st(self):
        ties = [f"{a}-{b}" for a, b in samples.pairs_of(20)[:62]]
        sixty = "20: " + " ".join(ties[:60])
        self.assertEqual(len(parse_web(sixty)[2]), 60)
        self.assertEqual(len(parse_web(sixty + "  ")[2]), 60)
        start = len(sixty) + 1 + ties[60].index("-") + 1
        self.wrong({sixty + " " + ties[60]: start, sixty + " " + ties[60] + " " + ties[61]: start,
                    sixty + " " + ties[0]: len(sixty) + 3, sixty + " " + ties[60] + " ": start,
                    sixty + " 18-": len(sixty) + 4, sixty + " 18-01": len(sixty) + 4, sixty + " 018-1": len(sixty) + 2,
                    sixty + " 20-1": len(sixty) + 1, sixty + " 1": len(sixty) + 2})

    def test_texts_that_end_too_soon(self):
        self.wrong({"": 0, "   ": 3, "3": 1, "3 ": 2, "20": 2, "3: 0": 4, "3: 0-": 5, "3: 0-1 2": 8, "3: 0-1 2-": 9,
                    "20: 1": 5, "2": 1})

    def test_all_short_texts(self):
        for many in range(7):
            for letters in itertools.product("012-: ", repeat=many):
                self.looked_at("".join(letters))

    def test_all_short_ties(self):
        for ahead in ("3: ", "3: 0-1 ", "11: 0-10"):
            for many in range(6):
                for letters in itertools.product("0123- ", repeat=many):
                    self.looked_at(ahead + "".join(letters))

    def test_each_character(self):
        for code in [10] + list(range(32, 127)):
            for ahead in ("", " ", "3", "3 ", "3:", "3: ", "3: 0", "3: 0-", "3: 0-1", "3: 0-1 ", "11: 0-1"):
                self.looked_at(ahead + chr(code))
                self.looked_at(ahead + chr(code) + "0")

    def test_one_character_left_out_changed_or_put_in(self):
        for web in [samples.cube(), samples.full_web(4), samples.triangulated(12, 3), ("web", 20, ((3, 17), (9, 10)))]:
            text = web_text(web)
            for at in range(len(text) + 1):
                self.looked_at(text[:at] + text[at + 1:])
                for letter in "0193-: x":
                    self.looked_at(text[:at] + letter + text[at + 1:])
                    self.looked_at(text[:at] + letter + text[at:])

    def test_refuses_what_is_no_string(self):
        for value in [value for value in samples.junk() if not isinstance(value, str)]:
            self.refused(InvalidText, {"value": value}, parse_web, value)
            self.refused(InvalidText, {"value": value}, parse_web, text=value)
