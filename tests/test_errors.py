"""The classes of errors: what they keep, and what they stand under."""

import unittest

from fewtold import errors
from tests.support import LONG

WITH_GIVEN = ("InvalidCount", "InvalidNumber", "InvalidTable", "InvalidReadings")
WITH_INDEX = ("InvalidRow", "InvalidAmounts", "InvalidLot", "InvalidSigns", "InvalidPlaces")
BARE = ("NotDependent", "NoRow", "NotBack", "NotFree")
ALL = WITH_GIVEN + WITH_INDEX + BARE
ANY_VALUES = (
    None, True, False, 0, 1, -1, 7, LONG, 10 ** 6000, "", "text", b"bytes", (), (1, 2), [], [1, [2]], {}, {"a": 1},
    {1, 2}, object(), int, ValueError("x"), len, ((((),),),),
)


class ErrorsTest(unittest.TestCase):
    def test_defined_in_the_file_of_errors(self):
        for name in ("FewError",) + ALL:
            made = getattr(errors, name)
            self.assertIsInstance(made, type)
            self.assertEqual(made.__module__, "fewtold.errors")
            self.assertEqual(made.__name__, name)

    def test_few_error_stands_under_value_error_alone(self):
        self.assertEqual(errors.FewError.__bases__, (ValueError,))
        self.assertIsInstance(errors.FewError(), ValueError)

    def test_all_others_stand_under_few_error_alone(self):
        for name in ALL:
            self.assertEqual(getattr(errors, name).__bases__, (errors.FewError,), name)

    def test_under_no_other_class(self):
        foreign = (
            LookupError, KeyError, IndexError, ArithmeticError, ZeroDivisionError, OverflowError, TypeError,
            RuntimeError, AttributeError, StopIteration, AssertionError, OSError, NameError, UnicodeError,
        )
        for name in ("FewError",) + ALL:
            made = getattr(errors, name)
            for other in foreign:
                self.assertFalse(issubclass(made, other), (name, other))
            for other in ALL:
                self.assertEqual(issubclass(made, getattr(errors, other)), name == other)

    def test_given_is_kept(self):
        self._keeps(WITH_GIVEN, "given")

    def test_index_is_kept(self):
        self._keeps(WITH_INDEX, "index")

    def _keeps(self, names, attribute):
        for name in names:
            made = getattr(errors, name)
            for value in ANY_VALUES:
                self.assertIs(getattr(made(value), attribute), value)
                self.assertIs(getattr(made(**{attribute: value}), attribute), value)

    def test_each_object_keeps_its_own(self):
        for name, attribute in [(n, "given") for n in WITH_GIVEN] + [(n, "index") for n in WITH_INDEX]:
            made = getattr(errors, name)
            first, second = made(1), made(2)
            self.assertEqual((getattr(first, attribute), getattr(second, attribute)), (1, 2))

    def test_without_attributes(self):
        for name in ("FewError",) + BARE:
            made = getattr(errors, name)()
            self.assertFalse(hasattr(made, "given"))
            self.assertFalse(hasattr(made, "index"))

    def test_raised_and_caught(self):
        for name in ALL:
            made = getattr(errors, name)
            for caught in (made, errors.FewError, ValueError):
                with self.assertRaises(caught):
                    if name in BARE:
                        raise made()
                    raise made(3)


if __name__ == "__main__":
    unittest.main()
