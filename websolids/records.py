"""Records: values judged, written as texts of lines, and read again."""

from websolids.errors import BadRecord, InvalidText, InvalidValue
from websolids.kinds import is_tuple_of
from websolids.made import is_made_of
from websolids.maps import is_map
from websolids.ratios import ratio_text
from websolids.recordlines import line_at, read_value
from websolids.refusals import is_refusal
from websolids.solids import is_solid
from websolids.webs import is_web
from websolids.webtexts import web_text

WORDS = ("web", "map", "solid", "made", "refused")
HEAD = "websolids 1 "
DIVISOR = 65521


def judged(value):
    """("ok", word) of a value that has a record, otherwise ("bad", word)."""
    if not isinstance(value, tuple) or not value or not isinstance(value[0], str) or value[0] not in WORDS:
        return ("bad", "value")
    return ("ok" if is_right(value) else "bad", value[0])


def check_of(text):
    """The check of a text."""
    if not isinstance(text, str):
        raise InvalidText(text)
    return sum(ord(letter) * place for place, letter in enumerate(text, start=1)) % DIVISOR


def record_text(value):
    """The record of a value."""
    if judged(value)[0] != "ok":
        raise InvalidValue(value)
    lines = [HEAD + value[0]] + value_lines(value)
    return text_of(lines + [end_line(lines)])


def parse_record(text):
    """The value whose record a text is."""
    if not isinstance(text, str):
        raise InvalidText(text)
    lines = text.split("\n")
    head = line_at(lines, 0)
    word = head[len(HEAD):]
    if not head.startswith(HEAD) or word not in WORDS:
        raise BadRecord(0)
    value, end = read_value(lines, word)
    if line_at(lines, end) != end_line(lines[:end]):
        raise BadRecord(end)
    if lines[end + 1:] != [""]:
        raise BadRecord(end + 1)
    if judged(value)[0] != "ok":
        raise BadRecord(1)
    return value


def is_right(value):
    """Whether a tuple with one of the words is what this word tells."""
    if value[0] == "web":
        return is_web(value)
    if value[0] == "map":
        return is_map(value)
    if value[0] == "solid":
        return is_solid(value)
    if not is_tuple_of(value, 3) or not is_web(value[1]):
        return False
    return is_made_of(value[1], value[2]) if value[0] == "made" else is_refusal(value[1], value[2])


def text_of(lines):
    """Lines as a text, each with a line feed behind."""
    return "".join([line + "\n" for line in lines])


def end_line(lines):
    """The last line behind these lines."""
    return f"end {len(lines)} {check_of(text_of(lines))}"


def value_lines(value):
    """The lines of a value between the first one and the last one."""
    if value[0] == "web":
        return [web_text(value)]
    if value[0] == "solid":
        return solid_lines(value)
    if value[0] == "map":
        return [web_text(value[1])] + [row_line(row) for row in value[2]]
    further = solid_lines(value[2]) if value[0] == "made" else paper_lines(value[2])
    return [web_text(value[1])] + further


def row_line(row):
    """Corners with blanks between."""
    return " ".join([str(corner) for corner in row])


def solid_lines(solid):
    """The lines of a solid."""
    corners = [" ".join([ratio_text(number) for number in corner]) for corner in solid[1]]
    return [f"solid {len(solid[1])} {len(solid[2])}"] + corners + [row_line(ring) for ring in solid[2]]


def paper_lines(paper):
    """The lines of a paper of refusal."""
    if paper[0] == "few":
        return [f"few {paper[1]}"]
    if paper[0] == "parts":
        return ["parts" + led_row(paper[1]) + " /" + led_row(paper[2])]
    return ["barred " + paper[1] + led_row(paper[2])] + [row_line(way) for way in paper[3]]


def led_row(row):
    """Corners with a blank ahead of each."""
    return "".join([f" {corner}" for corner in row])
