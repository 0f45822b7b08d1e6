"""The errors, and what they tell."""


class WebError(ValueError):
    """Something that was passed is not what it has to be."""


class InvalidRatio(WebError):
    """What was passed is no RATIO."""

    def __init__(self, value):
        self.value = value


class InvalidPoint(WebError):
    """What was passed is no point of the wanted kind."""

    def __init__(self, value):
        self.value = value


class InvalidPlane(WebError):
    """What was passed is no PLANE."""

    def __init__(self, value):
        self.value = value


class InvalidWeb(WebError):
    """What was passed is no WEB."""

    def __init__(self, value):
        self.value = value


class InvalidCorner(WebError):
    """What was passed is no corner that can stand here."""

    def __init__(self, value):
        self.value = value


class InvalidTie(WebError):
    """What was passed is no tie."""

    def __init__(self, value):
        self.value = value


class InvalidRing(WebError):
    """What was passed is no ring that can stand here."""

    def __init__(self, value):
        self.value = value


class InvalidMap(WebError):
    """What was passed is no MAP."""

    def __init__(self, value):
        self.value = value


class InvalidSolid(WebError):
    """What was passed is no right SOLID."""

    def __init__(self, value):
        self.value = value


class InvalidText(WebError):
    """What was passed is no string."""

    def __init__(self, value):
        self.value = value


class InvalidMany(WebError):
    """What was passed is no number within the bounds."""

    def __init__(self, value):
        self.value = value


class InvalidPosition(WebError):
    """What was passed is no position there."""

    def __init__(self, value):
        self.value = value


class InvalidRoom(WebError):
    """What was passed is no number of trials."""

    def __init__(self, value):
        self.value = value


class BadRecord(WebError):
    """A text is no record: the place of its first bad line."""

    def __init__(self, line):
        self.line = line


class BadText(WebError):
    """A text is not read: its wrong place."""

    def __init__(self, position):
        self.position = position


class InvalidCode(WebError):
    """What was passed is no code of a map."""

    def __init__(self, value):
        self.value = value


class InvalidCommand(WebError):
    """What was passed is no command."""

    def __init__(self, value):
        self.value = value


class InvalidCorners(WebError):
    """What was passed is no list of unlike corners."""

    def __init__(self, value):
        self.value = value


class InvalidDeeds(WebError):
    """A list of deeds is none: the place of the first that is no deed."""

    def __init__(self, position):
        self.position = position


class InvalidFace(WebError):
    """What was passed is no face that can stand here."""

    def __init__(self, value):
        self.value = value


class InvalidInteger(WebError):
    """What was passed is no INTEGER within the bounds."""

    def __init__(self, value):
        self.value = value


class InvalidMatrix(WebError):
    """What was passed is no MATRIX."""

    def __init__(self, value):
        self.value = value


class InvalidNames(WebError):
    """What was passed is no list with each corner once."""

    def __init__(self, value):
        self.value = value


class InvalidPlaces(WebError):
    """What was passed are no convex places."""

    def __init__(self, value):
        self.value = value


class InvalidPoints(WebError):
    """What was passed is no list of points."""

    def __init__(self, value):
        self.value = value


class InvalidRight(WebError):
    """What was passed is no right side."""

    def __init__(self, value):
        self.value = value


class InvalidRings(WebError):
    """What was passed is no list of rings."""

    def __init__(self, value):
        self.value = value


class InvalidRound(WebError):
    """What was passed is no round."""

    def __init__(self, value):
        self.value = value


class InvalidRows(WebError):
    """What was passed are no rows."""

    def __init__(self, value):
        self.value = value


class InvalidTies(WebError):
    """What was passed is no list of ties."""

    def __init__(self, value):
        self.value = value


class InvalidValue(WebError):
    """What was passed is no value with a record."""

    def __init__(self, value):
        self.value = value


class InvalidWay(WebError):
    """What was passed is no manner of a writing."""

    def __init__(self, value):
        self.value = value


class MissingError(LookupError):
    """Something is not there."""


class UnknownName(MissingError):
    """Nothing is kept under this name."""

    def __init__(self, value):
        self.value = value


class StateError(RuntimeError):
    """What is wanted can't be done with what there is."""


class AreTied(StateError):
    """Two corners are tied, so that no cut is between them."""


class CommandFailed(StateError):
    """A command of several failed: its place."""

    def __init__(self, position):
        self.position = position


class Flat(StateError):
    """All points lie on one plane."""


class NameTaken(StateError):
    """Something is kept under this name already."""

    def __init__(self, name):
        self.name = name


class NoKind(StateError):
    """There is no kind of this."""


class NoPlane(StateError):
    """The points are on one line."""


class NoQuotient(StateError):
    """Nothing is divided by 0."""


class NoSolid(StateError):
    """The web is none of a solid."""


class NoThing(StateError):
    """What is read is neither a web nor a solid."""


class NotAcross(StateError):
    """No tie can be laid across between these corners."""


class NotClear(StateError):
    """The eye lies on the plane of a face."""


class NotDrawn(StateError):
    """The web can't be drawn."""


class NotInside(StateError):
    """The point is not strictly inside."""


class NotJoined(StateError):
    """The web is not joined, or has no tie."""


class NotOutside(StateError):
    """The eye is not strictly outside."""


class NotThreeJoined(StateError):
    """The web is not three-joined."""


class NotTied(StateError):
    """Two corners are not tied."""


class NothingToRedo(StateError):
    """No deed can be done again."""


class NothingToUndo(StateError):
    """No deed can be taken back."""


class Singular(StateError):
    """The determinant is 0."""


class UnlikeRounds(StateError):
    """Two rounds have unlike numbers of corners."""


class LimitError(ArithmeticError):
    """Something would be more than is allowed."""


class TooMany(LimitError):
    """There would be more of something than the limit."""

    def __init__(self, what, limit):
        self.what = what
        self.limit = limit
