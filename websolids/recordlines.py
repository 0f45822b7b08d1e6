"""The lines of records, read by their forms, each by what stands ahead of it."""

from websolids.errors import BadRecord, BadText
from websolids.ratios import is_written, ratio_written
from websolids.solids import FEWEST_CORNERS, FEWEST_FACES
from websolids.webs import MOST_CORNERS
from websolids.webtexts import parse_web, web_text

MOST_FACES = 36
FEWEST_IN_ROUND = 1
FEWEST_IN_WAY = 2
FEWEST_IN_FACE = 3
HEADS = {"five": 5, "wells": 6}
WAYS = {"five": 10, "wells": 9}


def line_at(lines, at):
    """The line at a place, which must have a line feed behind: so another line, perhaps empty, comes behind it."""
    if at >= len(lines) - 1:
        raise BadRecord(at)
    return lines[at]


def read_value(lines, word):
    """The value of this word that the lines behind the first one tell, and the place behind them."""
    if word == "solid":
        return read_solid(lines, 1)
    web = read_web(lines, 1)
    if word == "web":
        return web, 2
    if word == "map":
        end = 2 + web[1]
        return (word, web, read_rows(lines, 2, end, web[1], FEWEST_IN_ROUND)), end
    part, end = read_solid(lines, 2) if word == "made" else read_paper(lines, 2, web[1])
    return (word, web, part), end


def read_web(lines, at):
    """The web that a line tells."""
    line = line_at(lines, at)
    try:
        web = parse_web(line)
    except BadText:
        raise BadRecord(at) from None
    if web_text(web) != line:
        raise BadRecord(at)
    return web


def read_solid(lines, at):
    """What the lines of a solid tell, right or not, and the place behind them."""
    words = line_at(lines, at).split(" ")
    numbers = numbers_in(words[1:], MOST_FACES + 1)
    if words[0] != "solid" or numbers is None or len(numbers) != 2:
        raise BadRecord(at)
    many, faces = numbers
    if not FEWEST_CORNERS <= many <= MOST_CORNERS or faces < FEWEST_FACES:
        raise BadRecord(at)
    middle, end = at + 1 + many, at + 1 + many + faces
    corners = tuple([read_point(lines, place) for place in range(at + 1, middle)])
    return ("solid", corners, read_rows(lines, middle, end, many, FEWEST_IN_FACE)), end


def read_point(lines, at):
    """The point that a line tells."""
    numbers = [ratio_written(word) for word in line_at(lines, at).split(" ")]
    if len(numbers) != 3 or None in numbers:
        raise BadRecord(at)
    return tuple(numbers)


def read_paper(lines, at, many):
    """What the lines of a paper of refusal tell, right or not, and the place behind them."""
    words = line_at(lines, at).split(" ")
    if words[:2] in (["barred", "five"], ["barred", "wells"]):
        kind = words[1]
        heads, end = numbers_in(words[2:], many), at + 1 + WAYS[kind]
        if heads is None or len(heads) != HEADS[kind]:
            raise BadRecord(at)
        return ("barred", kind, heads, read_rows(lines, at + 1, end, many, FEWEST_IN_WAY)), end
    if words[0] == "parts" and "/" in words:
        middle = words.index("/")
        cut, part = numbers_in(words[1:middle], many), numbers_in(words[middle + 1:], many)
        if cut is None or part is None:
            raise BadRecord(at)
        return ("parts", cut, part), at + 1
    if words[0] != "few" or len(words) != 2 or not is_written(words[1]):
        raise BadRecord(at)
    return ("few", int(words[1])), at + 1


def read_rows(lines, start, end, bound, fewest):
    """The tuple of the rows that lines tell: each of so many numbers at least, all less than the bound."""
    rows = []
    for at in range(start, end):
        row = numbers_in(line_at(lines, at).split(" "), bound)
        if row is None or len(row) < fewest:
            raise BadRecord(at)
        rows.append(row)
    return tuple(rows)


def numbers_in(words, bound):
    """The tuple of the COUNTS less than the bound that words tell, None if one tells none."""
    if not all(is_written(word) and int(word) < bound for word in words):
        return None
    return tuple([int(word) for word in words])
