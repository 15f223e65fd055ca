"""Promise [2]: the error classes of sayfill/errors.py."""

import unittest

from sayfill import errors
from sayfill.errors import BadField, BadLine, BadLog, BadPaper, BadValue, NothingThere, TalkError, TooMany

from helpers import EMPTY_ROWS, ODD_THINGS

ATTRIBUTES = (
    (BadValue, "at"), (BadField, "name"), (BadPaper, "at"), (BadLog, "at"), (BadLine, "at"),
    (TooMany, "word"), (NothingThere, "word"),
)


class TestErrors(unittest.TestCase):

    def test_2_base_class(self):
        self.assertEqual(TalkError.__bases__, (Exception,))
        with self.assertRaises(TalkError):
            raise TalkError()

    def test_2_directly_under_the_base_class(self):
        for kind, _ in ATTRIBUTES:
            self.assertEqual(kind.__bases__, (TalkError,), kind)

    def test_2_none_derived_from_another(self):
        for kind, _ in ATTRIBUTES:
            for other, _ in ATTRIBUTES:
                self.assertEqual(issubclass(kind, other), kind is other, (kind, other))

    def test_2_defined_in_errors(self):
        for kind in [TalkError] + [kind for kind, _ in ATTRIBUTES]:
            self.assertEqual(kind.__module__, "sayfill.errors")
            self.assertIs(getattr(errors, kind.__name__), kind)

    def test_2_argument_kept(self):
        for kind, attribute in ATTRIBUTES:
            for thing in (0, 1, 7, "fillings", "day") + ODD_THINGS + EMPTY_ROWS:
                self.assertIs(getattr(kind(thing), attribute), thing, kind)

    def test_2_argument_by_name(self):
        for kind, attribute in ATTRIBUTES:
            self.assertEqual(getattr(kind(**{attribute: 3}), attribute), 3, kind)

    def test_2_argument_due(self):
        for kind, _ in ATTRIBUTES:
            with self.assertRaises(TypeError):
                kind()

    def test_2_raised_and_caught_by_own_name(self):
        for kind, attribute in ATTRIBUTES:
            with self.assertRaises(kind) as caught:
                raise kind(5)
            self.assertIs(type(caught.exception), kind)
            self.assertEqual(getattr(caught.exception, attribute), 5)

    def test_2_raised_and_caught_as_talk_error(self):
        for kind, attribute in ATTRIBUTES:
            try:
                raise kind("word")
            except TalkError as error:
                self.assertEqual(getattr(error, attribute), "word")


if __name__ == "__main__":
    unittest.main()
