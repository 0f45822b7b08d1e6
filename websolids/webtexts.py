"""The texts of webs, written and read."""

from websolids.errors import BadText, InvalidText
from websolids.webs import MOST_CORNERS, MOST_TIES, check_web, web_of_pairs


def web_text(web):
    """The text of a web."""
    check_web(web)
    return f"{web[1]}:" + "".join([f" {one}-{other}" for one, other in web[2]])


def parse_web(text):
    """The web that is read."""
    if not isinstance(text, str):
        raise InvalidText(text)
    many, at = read_many(text)
    ties = []
    start = blanks_end(text, at)
    while start < len(text):
        if start == at:
            raise BadText(start)
        tie, at = read_tie(text, start, many, ties)
        ties.append(tie)
        start = blanks_end(text, at)
    return web_of_pairs(many, ties)


def read_many(text):
    """How many corners the text tells, and the place behind the : that follows."""
    start = blanks_end(text, 0)
    many, end = read_count(text, start)
    if not 1 <= many <= MOST_CORNERS:
        raise BadText(start)
    end = blanks_end(text, end)
    return many, place_behind(text, end, ":")


def read_tie(text, start, many, ties):
    """The tie that the text tells at a place, and the place behind it: none of those that were told already."""
    one, end = read_count(text, start)
    if one >= many:
        raise BadText(start)
    second = place_behind(text, end, "-")
    other, end = read_count(text, second)
    tie = (min(one, other), max(one, other))
    if other >= many or other == one or tie in ties or len(ties) == MOST_TIES:
        raise BadText(second)
    return tie, end


def read_count(text, start):
    """The COUNT that the text tells at a place, and the place behind its digits."""
    if text[start:start + 1] == "0":
        # Behind a 0 no digit can stand: so the COUNT is 0, and is looked at ahead of a digit that follows.
        return 0, start + 1
    end = start
    while end < len(text) and text[end] in "0123456789":
        end += 1
    if end == start:
        raise BadText(start)
    # `int` refuses thousands of digits; any three tell more than there may be corners.
    return int(text[start:end][:3]), end


def blanks_end(text, start):
    """The place behind the blanks, perhaps none, at a place."""
    end = start
    while end < len(text) and text[end] == " ":
        end += 1
    return end


def place_behind(text, at, mark):
    """The place behind a character that must stand at a place."""
    if text[at:at + 1] != mark:
        raise BadText(at)
    return at + 1
