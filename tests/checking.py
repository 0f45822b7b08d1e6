"""What the tests share: how they look at errors, at bools and at what was passed."""

import copy
import unittest


class Checking(unittest.TestCase):
    """A test case with the looks that many tests need."""

    def refused(self, error, told, call, *args, **named):
        """A call raises just this error, with these attributes; nothing that was passed is changed."""
        passed = repr((args, named))
        with self.assertRaises(error, msg=f"{call.__name__} {args!r} {named!r}") as caught:
            call(*args, **named)
        self.assertIs(type(caught.exception), error)
        for name, value in told.items():
            self.same(getattr(caught.exception, name), value)
        self.assertEqual(repr((args, named)), passed)

    def same(self, value, wanted):
        """Two values are equal, and of one kind, also inside."""
        self.assertEqual(value, wanted)
        self.assertIs(type(value), type(wanted), (value, wanted))
        if isinstance(wanted, (list, tuple)):
            for part, fellow in zip(value, wanted):
                self.same(part, fellow)

    def yes(self, value, msg=None):
        """It is True itself."""
        self.assertIs(value, True, msg)

    def no(self, value, msg=None):
        """It is False itself."""
        self.assertIs(value, False, msg)

    def new_list(self, call, *args):
        """The call gives a new list each time, and what it gave may be changed."""
        first = call(*args)
        kept = copy.deepcopy(first)
        self.assertIs(type(first), list)
        first.append("changed")
        self.same(call(*args), kept)

