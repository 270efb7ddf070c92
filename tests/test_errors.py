"""[5]: the classes of the errors."""

import inspect
import unittest

from patterndeeds import errors
from patterndeeds.errors import DeedError
from helper import Case

PLAIN = """InvalidSource InvalidWords InvalidProgram InvalidExpression InvalidFunction InvalidNames InvalidWorld
InvalidCount InvalidIndex InvalidCode InvalidHeld InvalidSpot InvalidKind InvalidRoot InvalidFormat InvalidPlace
InvalidCommand TooLarge UnsoundProgram UnsoundCode UnknownFunction UnknownName NotFitting Whole Refused NothingToUndo
NoBlock NotReady""".split()
FIELDS = {"InvalidWord": "index", "NoProgram": "number", "KindClash": "chain", "NoPattern": "index",
          "InvalidText": "index", "Written": "tick", "InvalidDeeds": "index", "RunError": "word"}
WORTHS = [0, 7, None, True, "divide", [("f", "a"), ("", "x")], ("x", []), DeedError("x"), 10 ** 80]


class TestErrors(Case):

    def test_base(self):
        self.assertEqual(DeedError.__bases__, (ValueError,))

    def test_all_classes_and_no_other(self):
        found = [name for name, worth in vars(errors).items() if inspect.isclass(worth)]
        self.assertEqual(sorted(found), sorted(PLAIN + list(FIELDS) + ["DeedError"]))

    def test_directly_under_the_base(self):
        for name in PLAIN + list(FIELDS):
            self.assertEqual(getattr(errors, name).__bases__, (DeedError,), name)

    def test_defined_in_the_file(self):
        for name in PLAIN + list(FIELDS) + ["DeedError"]:
            self.assertEqual(getattr(errors, name).__module__, "patterndeeds.errors")

    def test_plain_ones_are_made_with_a_string(self):
        for name in PLAIN:
            for base in [getattr(errors, name), DeedError, ValueError]:
                with self.assertRaises(base):
                    raise getattr(errors, name)("some words")

    def test_fields_by_position_and_by_name(self):
        for name, field in FIELDS.items():
            made = getattr(errors, name)
            for worth in WORTHS:
                self.assertIs(getattr(made(worth), field), worth)
                self.assertIs(getattr(made(**{field: worth}), field), worth)
                for base in [made, DeedError, ValueError]:
                    with self.assertRaises(base):
                        raise made(worth)

    def test_fields_take_one_argument(self):
        for name in FIELDS:
            with self.assertRaises(TypeError):
                getattr(errors, name)()
            with self.assertRaises(TypeError):
                getattr(errors, name)(1, 2)

    def test_no_one_catches_another(self):
        names = PLAIN + list(FIELDS)
        for name in names:
            for other in names:
                self.assertEqual(issubclass(getattr(errors, name), getattr(errors, other)), name == other)


if __name__ == "__main__":
    unittest.main()
