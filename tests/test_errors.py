"""Promise: each error is made from one argument, any value, and keeps it."""

import copy
import unittest

from liftedladders import errors

LADDER = (("BadNumber", "number"), ("BadBook", "part"), ("BadPlace", "place"), ("BadGame", "value"),
          ("BadMove", "index"), ("BadLot", "place"), ("BadWorths", "place"), ("BadGoal", "part"),
          ("BadHand", "hand"), ("BadHonest", "index"), ("BadGames", "number"), ("BadBout", "index"),
          ("BadRow", "index"), ("BadChances", "index"), ("BadOpponent", "index"), ("BadPlan", "key"),
          ("BadMenu", "index"), ("BadChoice", "choice"), ("BadWish", "index"), ("BadTold", "index"),
          ("BadName", "name"), ("BadText", "index"), ("BadLine", "line"))
APART = (("UnknownPlace", "place", KeyError), ("TooMany", "limit", OverflowError),
         ("NothingToUndo", "name", RuntimeError))


class Unshowable:
    """A value that cannot be shown, compared or hashed."""

    __hash__ = None

    def __repr__(self):
        raise AssertionError("shown")

    def __str__(self):
        raise AssertionError("shown")

    def __eq__(self, other):
        raise AssertionError("compared")


def values():
    return [0, -1, 10 ** 40, True, None, "text", (1, 2), [1], {}, object(), errors.BadBook, Unshowable()]


def all_errors():
    told = [(getattr(errors, name), attribute) for name, attribute in LADDER]
    return told + [(getattr(errors, name), attribute) for name, attribute, _ in APART]


class ErrorsTest(unittest.TestCase):
    def test_kept_by_position_and_by_name(self):
        for error, attribute in all_errors():
            for value in values():
                self.assertIs(getattr(error(value), attribute), value)
                self.assertIs(getattr(error(**{attribute: value}), attribute), value)

    def test_kept_when_raised(self):
        for error, attribute in all_errors():
            value = [error]
            with self.assertRaises(error) as caught:
                raise error(value)
            self.assertIs(getattr(caught.exception, attribute), value)
            self.assertIsInstance(str(caught.exception), str)

    def test_one_argument(self):
        for error, attribute in all_errors():
            for told, named in (((), {}), ((1, 2), {}), ((), {"other": 1}), ((1,), {attribute: 1})):
                with self.assertRaises(TypeError):
                    error(*told, **named)

    def test_bases(self):
        self.assertEqual(errors.LadderError.__bases__, (ValueError,))
        for name, _ in LADDER:
            self.assertEqual(getattr(errors, name).__bases__, (errors.LadderError,))
        for name, _, base in APART:
            self.assertEqual(getattr(errors, name).__bases__, (base,))
            self.assertFalse(issubclass(getattr(errors, name), errors.LadderError))

    def test_none_from_another(self):
        for error, _ in all_errors():
            for other, _ in all_errors():
                self.assertEqual(issubclass(error, other), error is other)

    def test_copied(self):
        for error, attribute in all_errors():
            self.assertEqual(getattr(copy.copy(error((1, 2))), attribute), (1, 2))

    def test_all_listed_and_no_more(self):
        names = {name for name, value in vars(errors).items() if isinstance(value, type)}
        self.assertEqual(names, {"LadderError"} | {row[0] for row in LADDER + APART})


if __name__ == "__main__":
    unittest.main()
