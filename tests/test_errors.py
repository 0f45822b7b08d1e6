"""Tests of websolids.errors."""

import inspect

import websolids.errors
from tests.checking import Checking

BY_VALUE = """InvalidRatio InvalidPoint InvalidPlane InvalidWeb InvalidCorner InvalidTie InvalidRing InvalidMap
InvalidSolid InvalidText InvalidMany InvalidPosition InvalidRoom InvalidCode InvalidCommand InvalidCorners InvalidFace
InvalidInteger InvalidMatrix InvalidNames InvalidPlaces InvalidPoints InvalidRight InvalidRings InvalidRound
InvalidRows InvalidTies InvalidValue InvalidWay""".split()
BARE_STATES = """AreTied Flat NoKind NoPlane NoQuotient NoSolid NoThing NotAcross NotClear NotDrawn NotInside NotJoined
NotOutside NotThreeJoined NotTied NothingToRedo NothingToUndo Singular UnlikeRounds""".split()
BASES = [("WebError", ValueError), ("MissingError", LookupError), ("StateError", RuntimeError),
         ("LimitError", ArithmeticError)]


def listed():
    """Each error with attributes or without: its name, its base's name, its attributes."""
    rows = [(name, "WebError", ("value",)) for name in BY_VALUE]
    rows += [("BadRecord", "WebError", ("line",)), ("BadText", "WebError", ("position",))]
    rows += [("InvalidDeeds", "WebError", ("position",)), ("UnknownName", "MissingError", ("value",))]
    rows += [("CommandFailed", "StateError", ("position",)), ("NameTaken", "StateError", ("name",))]
    rows += [(name, "StateError", ()) for name in BARE_STATES]
    return rows + [("TooMany", "LimitError", ("what", "limit"))]


def found(name):
    """The class of this name."""
    return getattr(websolids.errors, name)


class ErrorsTest(Checking):

    def test_bases(self):
        for name, base in BASES:
            self.assertEqual(found(name).__bases__, (base,), name)

    def test_each_class(self):
        self.assertEqual(len(listed()), 55)
        for name, base, _ in listed():
            self.assertEqual(found(name).__bases__, (found(base),), name)
            self.assertEqual(found(name).__module__, "websolids.errors", name)

    def test_attributes_by_position_and_by_name(self):
        for name, _, attributes in listed():
            for values in ((1, 2), ("a", None), ([1], {"k": (2,)}), (True, -1), (object(), b"x")):
                values = values[:len(attributes)]
                named = dict(zip(attributes, values))
                for error in (found(name)(*values), found(name)(**named)):
                    for attribute, value in named.items():
                        self.assertIs(getattr(error, attribute), value, name)

    def test_constructors_are_their_own(self):
        for name, _, attributes in listed():
            if attributes:
                self.assertIn("__init__", vars(found(name)), name)
                names = list(inspect.signature(found(name).__init__).parameters)
                self.assertEqual(names[1:], list(attributes), name)

    def test_too_few_and_too_many_arguments(self):
        for name, _, attributes in listed():
            if attributes:
                self.assertRaises(TypeError, found(name))
                self.assertRaises(TypeError, found(name), *([1] * (len(attributes) + 1)))

    def test_they_are_raised_and_caught_by_their_bases(self):
        for name, base, attributes in listed():
            for kind in (found(name), found(base), dict(BASES)[base]):
                with self.assertRaises(kind):
                    raise found(name)(*attributes)
