"""Commands of a desk, read by their words alone."""

from websolids.errors import InvalidRing
from websolids.kinds import is_count_tuple
from websolids.ratios import is_written, ratio_text, ratio_written
from websolids.space import check_point

# Of each word the kinds of the parts behind it.
DEEDS = {
    "web": ("new", "text"),
    "hull": ("new", "points"),
    "solid": ("new", "web"),
    "trace": ("new", "solid"),
    "polar": ("new", "solid"),
    "cut": ("new", "solid", "count"),
    "raise": ("new", "solid", "count"),
    "mirror": ("new", "solid"),
    "trim": ("new", "web", "count"),
    "tie": ("new", "web", "count", "count"),
    "read": ("new", "text"),
    "copy": ("new", "name"),
    "drop": ("name",),
}
OTHERS = {
    "undo": (),
    "redo": (),
    "names": (),
    "show": ("name",),
    "has": ("web",),
    "faces": ("web",),
    "alike": ("solid", "other"),
    "size": ("solid",),
    "where": ("solid", "point"),
    "rests": ("solid",),
    "rolls": ("solid", "count"),
    "judged": ("name",),
    "record": ("name",),
    "same": ("name", "other"),
}
LETTERS = "abcdefghijklmnopqrstuvwxyz"
DIGITS = "0123456789"
LONGEST_NAME = 8
LONGEST_COUNT = 2
MOST_DIGITS = 12
FEWEST_POINTS = 4
MOST_POINTS = 20


def is_command(value):
    """Whether any value is a command by its words alone."""
    return isinstance(value, str) and read_parts(value) is not None


def is_deed(value):
    """Whether any value is a command that is a deed."""
    return is_command(value) and first_word(value) in DEEDS


def point_words(point):
    """A POINT, written."""
    check_point(point)
    return ",".join([ratio_text(number) for number in point])


def ring_words(ring):
    """A ring, written."""
    if not is_count_tuple(ring) or len(ring) < 3 or len(set(ring)) < len(ring):
        raise InvalidRing(ring)
    return "-".join([str(corner) for corner in ring])


def first_word(command):
    """The first word of a text."""
    return command.partition(" ")[0]


def kinds_of_parts(word):
    """The kinds of the parts behind the word of a command, None if it is none."""
    return DEEDS.get(word, OTHERS.get(word))


def read_parts(command):
    """The list of what the parts behind the word of a command tell, None if it is no command."""
    kinds = kinds_of_parts(first_word(command))
    if kinds is None:
        return None
    words = command.split(" ", len(kinds))
    # Behind the word of a command without parts no blank is split off.
    if len(words) != len(kinds) + 1 or words[0] != first_word(command):
        return None
    parts = [read_part(kind, word) for kind, word in zip(kinds, words[1:])]
    return None if None in parts else parts


def read_part(kind, word):
    """What a part of a command tells, None if it isn't of this kind."""
    if kind == "text":
        return word if word != "" else None
    if kind == "count":
        return int(word) if is_written(word) and len(word) <= LONGEST_COUNT else None
    if kind == "point":
        return read_point_words(word)
    if kind == "points":
        points = [read_point_words(part) for part in word.split(" ")]
        return points if FEWEST_POINTS <= len(points) <= MOST_POINTS and None not in points else None
    return word if is_name(word) else None


def is_name(text):
    """Whether a text is a name of the desk."""
    if not 1 <= len(text) <= LONGEST_NAME or text[0] not in LETTERS:
        return False
    return all(letter in LETTERS or letter in DIGITS for letter in text)


def read_point_words(text):
    """The POINT that a text tells, None if it tells none."""
    words = text.split(",")
    numbers = [ratio_written(word) for word in words]
    if len(numbers) != 3 or None in numbers or not all(digits_in(word) <= MOST_DIGITS for word in words):
        return None
    return tuple(numbers)


def digits_in(text):
    """How many digits a text has."""
    return len([letter for letter in text if letter in DIGITS])
