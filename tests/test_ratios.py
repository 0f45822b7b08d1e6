"""Tests of websolids.ratios."""

import itertools
import re
from fractions import Fraction

from tests.checking import Checking
from tests.samples import junk
from websolids.errors import BadText, InvalidInteger, InvalidRatio, InvalidText, NoQuotient
from websolids.ratios import is_ratio, parse_ratio, ratio, ratio_text
from websolids.space import between

MOST = 10 ** 40 - 1
NO_RATIOS = [
    (2, 4), (0, 2), (0, 0), (1, 0), (1, -2), (-1, -1), (0, -1), (6, 3), (-2, 2), (True, 2), (1, True), (False, 1),
    (0, True), (1, "2"), ("1", 2), (None, 1), (1, None), ((1,), 2), (1, (2,)), ([1], 1), (1,), (1, 2, 3), [1, 2],
    [3, 1], {1: 2}, "12", b"12", ((1, 2),), (b"1", 2),
]
READ = re.compile("(-?)([0-9]{1,40})(?:/([0-9]{1,40})|[.]([0-9]{1,40}))?")
BEGUN = re.compile("-?([0-9]{1,40}([/.]([0-9]{0,40}))?)?")


def looks_like_ratio(value):
    """The test's own look at any value."""
    if type(value) is not tuple or len(value) != 2 or any([type(part) is not int for part in value]):
        return False
    return value[1] > 0 and (Fraction(*value).numerator, Fraction(*value).denominator) == value


def begins_one(text):
    """Whether some text that is read begins so."""
    if not BEGUN.fullmatch(text):
        return False
    return "/" not in text or text.split("/")[1] != "0" * 40


def read(text):
    """What is read of a text, or the place at which it goes wrong."""
    parts = READ.fullmatch(text)
    if parts and (parts.group(3) is None or int(parts.group(3)) > 0):
        sign, digits, under, tail = parts.groups()
        told = Fraction(int(digits + (tail or "")), int(under or 1) * 10 ** len(tail or ""))
        return (-told.numerator if sign else told.numerator, told.denominator)
    return min([at for at in range(len(text)) if not begins_one(text[:at + 1])] + [len(text)])


class RatioTest(Checking):

    def test_is_ratio_of_ratios(self):
        for value in [(1, 2), (0, 1), (-1, 2), (7, 1), (-9, 1), (10 ** 50 + 1, 10 ** 50), (-3, 10 ** 45), (1, 10 ** 60)]:
            self.yes(is_ratio(value), value)
            self.yes(is_ratio(value=value), value)

    def test_is_ratio_of_anything_else(self):
        for value in NO_RATIOS + [value for value in junk() if not looks_like_ratio(value)]:
            self.no(is_ratio(value), value)

    def test_is_ratio_of_all_small_pairs(self):
        for value in itertools.product(range(-12, 13), repeat=2):
            self.assertIs(is_ratio(value), looks_like_ratio(value), value)

    def test_ratio(self):
        for number, under in itertools.product(range(-20, 21), repeat=2):
            if under:
                told = Fraction(number, under)
                self.same(ratio(number, under), (told.numerator, told.denominator))
        self.same(ratio(under=-4, number=6), (-3, 2))
        self.same(ratio(0, -5), (0, 1))

    def test_ratio_at_the_bounds(self):
        for number, under in itertools.product((MOST, -MOST, 10 ** 39, 1), (MOST, -MOST, MOST - 1, 2)):
            told = Fraction(number, under)
            self.same(ratio(number, under), (told.numerator, told.denominator))

    def test_ratio_refuses(self):
        wrong = [value for value in junk() if type(value) is not int] + [MOST + 1, -MOST - 1, 10 ** 59]
        for value in wrong:
            self.refused(InvalidInteger, {"value": value}, ratio, value, 1)
            self.refused(InvalidInteger, {"value": value}, ratio, 1, value)
            self.refused(InvalidInteger, {"value": value}, ratio, value, 0)
            self.refused(InvalidInteger, {"value": value}, ratio, under="later", number=value)
            self.refused(InvalidInteger, {"value": value}, ratio, under=value, number=0)
        self.refused(InvalidInteger, {"value": True}, ratio, True, MOST + 1)
        self.refused(InvalidInteger, {"value": MOST + 1}, ratio, MOST + 1, True)
        for number in (0, 1, -7, MOST):
            self.refused(NoQuotient, {}, ratio, number, 0)


class RatioTextTest(Checking):

    def test_text(self):
        told = {(-3, 2): "-3/2", (4, 1): "4", (0, 1): "0", (-1, 1): "-1", (1, 10): "1/10", (-1, 7): "-1/7",
                (10 ** 50, 3): "1" + "0" * 50 + "/3", (-1, 10 ** 59): "-1/1" + "0" * 59}
        for value, text in told.items():
            self.same(ratio_text(value), text)
            self.same(ratio_text(ratio=value), text)

    def test_text_of_many_is_read_as_it_was(self):
        for number, under in itertools.product(list(range(-30, 31)) + [MOST, 1 - MOST], list(range(1, 20)) + [MOST - 1]):
            value = ratio(number, under)
            want = str(value[0]) if value[1] == 1 else f"{value[0]}/{value[1]}"
            self.same(ratio_text(value), want)
            self.same(parse_ratio(want), value)

    def test_text_of_long_numbers(self):
        # Points between points, again and again, come to numbers of thousands of digits.
        one, other = ((1, 7), (-3, 10 ** 39 + 1), (10 ** 40, 3)), ((2, 11), (0, 1), (-5, 9))
        for _ in range(40):
            other = between(one, other, (1 - 10 ** 40, 10 ** 39))
            for number, under in other:
                self.same(ratio_text((number, under)), str(number) if under == 1 else f"{number}/{under}")
        self.assertGreater(max([len(ratio_text(part)) for part in other]), 3000)

    def test_text_refuses(self):
        for value in NO_RATIOS + [value for value in junk() if not looks_like_ratio(value)]:
            self.refused(InvalidRatio, {"value": value}, ratio_text, value)
            self.refused(InvalidRatio, {"value": value}, ratio_text, ratio=value)


class ParseRatioTest(Checking):

    def looked_at(self, text):
        want = read(text)
        if isinstance(want, tuple):
            self.same(parse_ratio(text), want)
        else:
            self.refused(BadText, {"position": want}, parse_ratio, text)

    def test_what_is_read(self):
        told = {"0": (0, 1), "-0": (0, 1), "00": (0, 1), "-0.0": (0, 1), "7": (7, 1), "-7": (-7, 1), "007": (7, 1),
                "6/4": (3, 2), "-6/4": (-3, 2), "006/4": (3, 2), "6/004": (3, 2), "0/5": (0, 1), "1.5": (3, 2),
                "-0.250": (-1, 4), "0.3": (3, 10), "10.0": (10, 1), "00.10": (1, 10), "3.14": (157, 50)}
        for text, value in told.items():
            self.same(parse_ratio(text), value)
            self.same(parse_ratio(text=text), value)

    def test_where_it_goes_wrong(self):
        told = {"": 0, "-": 1, "--1": 1, "x": 0, " 1": 0, "1 ": 1, "1/": 2, "1/0": 3, "1/00": 4, "1/0x": 3, "1/-2": 2,
                "1.": 2, "1.x": 2, ".5": 0, "/2": 0, "1/2/3": 3, "1.2.3": 3, "1.5/2": 3, "1/2.5": 3, "+1": 0,
                "1-": 1, "1\n": 1, "\n": 0, "-/2": 1, "-.5": 1, "1/ 2": 2, "1,5": 1, "1e5": 1, "1_0": 1}
        for text, place in told.items():
            self.refused(BadText, {"position": place}, parse_ratio, text)
            self.refused(BadText, {"position": place}, parse_ratio, text=text)

    def test_all_short_texts(self):
        for many in range(6):
            for letters in itertools.product("-/.03x", repeat=many):
                self.looked_at("".join(letters))

    def test_forty_digits(self):
        nines, zeros = "9" * 40, "0" * 40
        for text in [nines, "-" + nines, zeros, nines + "/" + nines, nines + "." + nines, "-" + zeros + ".1",
                     "1/" + "0" * 39 + "1", "1/" + "0" * 38 + "10", "1." + zeros, "0." + "0" * 39 + "5"]:
            self.assertIsInstance(read(text), tuple)
            self.looked_at(text)

    def test_one_digit_too_many(self):
        told = {"9" * 41: 40, "-" + "9" * 41: 41, "0" * 41: 40, "1/" + "9" * 41: 42, "1." + "9" * 41: 42,
                "-1." + "0" * 41: 43, "1/" + "0" * 39: 41, "1/" + "0" * 40: 41, "1/" + "0" * 41: 41,
                "1/" + "0" * 40 + "1": 41, "1/" + "0" * 39 + "x": 41, "1/" + "0" * 39 + "11": 42,
                "1" * 40 + "/" + "1" * 40 + "1": 81, "1" * 40 + "x": 40, "1" * 41 + "/2": 40, "1" * 5000: 40,
                "-22/" + "0" * 40: 43}
        for text, place in told.items():
            self.assertEqual(read(text), place)
            self.refused(BadText, {"position": place}, parse_ratio, text)

    def test_each_character(self):
        for code in [10] + list(range(32, 127)):
            for ahead in ("", "-", "1", "-12", "1/", "1/2", "1/0", "1.", "1.0", "9" * 40):
                self.looked_at(ahead + chr(code))

    def test_refuses_what_is_no_string(self):
        for value in [value for value in junk() if not isinstance(value, str)]:
            self.refused(InvalidText, {"value": value}, parse_ratio, value)
            self.refused(InvalidText, {"value": value}, parse_ratio, text=value)
