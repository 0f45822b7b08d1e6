"""A desk that keeps webs and solids under names, and does what commands tell."""

from websolids.commands import DEEDS, first_word, is_command, is_deed, kinds_of_parts, read_parts
from websolids.deeds import NOTHING, answered, listed, made_thing
from websolids.errors import (
    CommandFailed,
    InvalidCommand,
    InvalidDeeds,
    LimitError,
    MissingError,
    NameTaken,
    NothingToRedo,
    NothingToUndo,
    StateError,
    TooMany,
    UnknownName,
    WebError,
)
from websolids.kinds import is_listed

MOST_NAMES = 16
MOST_DEEDS = 200
# The kinds of parts that are names of what is kept.
WANTED = ("name", "web", "solid", "other")


class Desk:
    """Things under names, with the deeds by which they came."""

    def __init__(self):
        # Of each deed its line, and the things that are kept behind it; of the deeds taken back the next one last.
        self._done = []
        self._taken_back = []

    def names(self):
        """The sorted list of the names of what is kept."""
        return sorted(self._things())

    def __len__(self):
        return len(self._done)

    def __getitem__(self, name):
        if not self._has(name):
            raise UnknownName(name)
        return self._things()[name]

    def __contains__(self, name):
        return self._has(name)

    def __iter__(self):
        raise TypeError("a desk is not iterated over")

    def __call__(self, command):
        return self.do(command)

    def do(self, command):
        """Does a command; its answer."""
        if not is_command(command):
            raise InvalidCommand(command)
        word, words = first_word(command), read_parts(command)
        parts = self._resolved(kinds_of_parts(word), words)
        if word in DEEDS:
            self._keep(command, self._changed(word, words, parts))
            return NOTHING
        if word == "undo":
            return self._undone()
        if word == "redo":
            return self._redone()
        return listed(self.names()) if word == "names" else answered(word, parts)

    def do_all(self, *commands):
        """Does commands, all or none; the list of their answers."""
        done, taken_back = list(self._done), list(self._taken_back)
        answers = []
        for position, command in enumerate(commands):
            try:
                answers.append(self.do(command))
            except (WebError, MissingError, StateError, LimitError) as e:
                self._done, self._taken_back = done, taken_back
                raise CommandFailed(position) from e
        return answers

    def lines(self):
        """The list of the lines of the deeds that are not taken back."""
        return [line for line, _ in self._done]

    def twin(self):
        """A desk that goes on by itself from what this one has."""
        other = Desk()
        other._done, other._taken_back = list(self._done), list(self._taken_back)
        return other

    @classmethod
    def again(cls, lines):
        """A desk that has done these deeds."""
        if not is_listed(lines):
            raise InvalidDeeds(None)
        for position, line in enumerate(lines):
            if not is_deed(line):
                raise InvalidDeeds(position)
        desk = cls()
        desk.do_all(*lines)
        return desk

    def _things(self):
        """What is kept: names with their things."""
        return self._done[-1][1] if self._done else {}

    def _has(self, value):
        """Whether any value is a name under which something is kept."""
        return isinstance(value, str) and value in self._things()

    def _resolved(self, kinds, words):
        """The parts of a command: things in the place of their names, all else as it was read."""
        parts = []
        for kind, word in zip(kinds, words):
            if kind == "new" and self._has(word):
                raise NameTaken(word)
            if kind in WANTED:
                parts.append(self._thing(word, parts[-1][0] if kind == "other" else kind))
            else:
                parts.append(word)
        return parts

    def _thing(self, name, sort):
        """What is kept under a name: of a sort, or of any if this is "name"."""
        if not self._has(name) or sort not in ("name", self._things()[name][0]):
            raise UnknownName(name)
        return self._things()[name]

    def _changed(self, word, words, parts):
        """What is kept when a deed is done."""
        things = dict(self._things())
        if word == "drop":
            del things[words[0]]
        else:
            things[words[0]] = made_thing(word, parts[1:])
        return things

    def _keep(self, line, things):
        """Goes on with these things, if they and the deeds are not too many."""
        if len(things) > MOST_NAMES:
            raise TooMany("names", MOST_NAMES)
        if len(self._done) == MOST_DEEDS:
            raise TooMany("deeds", MOST_DEEDS)
        self._done.append((line, things))
        self._taken_back = []

    def _undone(self):
        """Takes the last deed back; its line."""
        if not self._done:
            raise NothingToUndo()
        self._taken_back.append(self._done.pop())
        return self._taken_back[-1][0]

    def _redone(self):
        """Does the deed that was taken back last again; its line."""
        if not self._taken_back:
            raise NothingToRedo()
        self._done.append(self._taken_back.pop())
        return self._done[-1][0]
