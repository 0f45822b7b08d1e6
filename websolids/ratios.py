"""RATIOS: exact numbers, their sums and products, their texts."""

from math import gcd, lcm

from websolids.errors import BadText, InvalidInteger, InvalidRatio, InvalidText, NoQuotient
from websolids.kinds import is_integer, is_tuple_of

MOST_DIGITS = 40
MOST_WRITTEN = 4000


def is_ratio(value):
    """Whether any value is a RATIO."""
    if not is_tuple_of(value, 2):
        return False
    number, under = value
    return is_integer(number) and is_integer(under) and under >= 1 and gcd(number, under) == 1


def ratio(number, under):
    """The RATIO number / under."""
    for value in (number, under):
        if not is_integer(value) or abs(value) >= 10 ** 40:
            raise InvalidInteger(value)
    if under == 0:
        raise NoQuotient()
    return lowest(number, under)


def ratio_text(ratio):
    """The text of a RATIO."""
    if not is_ratio(ratio):
        raise InvalidRatio(ratio)
    number, under = ratio
    if under == 1:
        return integer_text(number)
    return integer_text(number) + "/" + integer_text(under)


def parse_ratio(text):
    """The RATIO that is read."""
    if not isinstance(text, str):
        raise InvalidText(text)
    start = 1 if text.startswith("-") else 0
    middle = digits_end(text, start)
    if middle == start:
        raise BadText(start)
    number, under = int(text[start:middle]), 1
    if middle < len(text):
        if text[middle] == "/":
            under = read_under(text, middle + 1)
        elif text[middle] == ".":
            tail = read_tail(text, middle + 1)
            number, under = int(text[start:middle] + tail), int("1" + "0" * len(tail))
        else:
            raise BadText(middle)
    return lowest(-number if start == 1 else number, under)


def is_written(text):
    """Whether a text is the decimal digits of a COUNT, without needless zeros, and not too many."""
    if not 1 <= len(text) <= MOST_WRITTEN or not all(letter in "0123456789" for letter in text):
        return False
    return text == "0" or text[0] != "0"


def ratio_written(text):
    """The RATIO whose text this is, None if it is the text of none, or has too many digits."""
    number, mark, under = text.partition("/")
    digits = number[1:] if number.startswith("-") else number
    if not is_written(digits) or (mark != "" and not is_written(under)):
        return None
    told = (int(number), int(under) if mark != "" else 1)
    return told if is_ratio(told) and ratio_text(told) == text else None


def read_under(text, start):
    """What stands behind the / of a text: digits to its end, not all 0."""
    end = digits_end(text, start)
    digits = text[start:end]
    all_zeros = digits == "0" * len(digits)
    if all_zeros and len(digits) == MOST_DIGITS:
        # No digit may follow that would make the under other than 0: so the last 0 was one too many.
        raise BadText(end - 1)
    if all_zeros or end < len(text):
        raise BadText(end)
    return int(digits)


def read_tail(text, start):
    """The digits that stand behind the point of a text, to its end."""
    end = digits_end(text, start)
    if end == start or end < len(text):
        raise BadText(end)
    return text[start:]


def digits_end(text, start):
    """The place behind the digits that begin at a place, as many as may stand there."""
    end = start
    while end < len(text) and end < start + MOST_DIGITS and text[end] in "0123456789":
        end += 1
    return end


def integer_text(number):
    """The decimal digits of an INTEGER."""
    # In pieces, since `str` refuses numbers of more than 4,300 digits, which sums may come to.
    rest, pieces = abs(number), []
    while rest >= 10 ** 64:
        rest, low = divmod(rest, 10 ** 64)
        pieces.append(str(low).zfill(64))
    pieces.append(str(rest))
    sign = "-" if number < 0 else ""
    return sign + "".join(pieces[::-1])


def lowest(number, under):
    """The RATIO of two INTEGERS, the second one not 0."""
    shared = gcd(number, under)
    if under < 0:
        shared = -shared
    return (number // shared, under // shared)


def ratio_plus(ratio, other):
    """The sum of two RATIOS."""
    return lowest(ratio[0] * other[1] + other[0] * ratio[1], ratio[1] * other[1])


def ratio_contrary(ratio):
    """What makes 0 together with a RATIO."""
    return (-ratio[0], ratio[1])


def ratio_less(ratio, other):
    """The first RATIO less the second one."""
    return ratio_plus(ratio, ratio_contrary(other))


def ratio_times(ratio, other):
    """The product of two RATIOS."""
    return lowest(ratio[0] * other[0], ratio[1] * other[1])


def ratio_inverse(ratio):
    """What makes 1 when multiplied by a RATIO that is not 0."""
    return lowest(ratio[1], ratio[0])


def ratio_sum(ratios):
    """The sum of a list of RATIOS."""
    total = (0, 1)
    for part in ratios:
        total = ratio_plus(total, part)
    return total


def ratio_sign(ratio):
    """1 above 0, 0 at 0, -1 below."""
    return (ratio[0] > 0) - (ratio[0] < 0)


def ratio_greatest(ratios):
    """The greatest of one or more RATIOS."""
    greatest = ratios[0]
    for part in ratios:
        if ratio_sign(ratio_less(part, greatest)) > 0:
            greatest = part
    return greatest


def ratio_least(ratios):
    """The least of one or more RATIOS."""
    return ratio_contrary(ratio_greatest([ratio_contrary(part) for part in ratios]))


def shared_under(ratios):
    """The least INTEGER from 1 on that makes all of some RATIOS whole when they are multiplied by it."""
    shared = 1
    for part in ratios:
        shared = lcm(shared, part[1])
    return shared


def wholes_of(ratios, under):
    """The list of the INTEGERS that RATIOS become when they are multiplied by a number that makes them whole."""
    return [number * (under // own) for number, own in ratios]
