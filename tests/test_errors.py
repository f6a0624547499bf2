"""The interface, allnear/errors.py: the fields of each error, and where it stands."""

import unittest

from allnear import errors
from allnear.errors import Missing, NearError
from tests.helper import Odd

PARTED = ("BadPoly", "BadScheme", "BadReading", "BadCurve", "BadBase", "BadRows", "BadRests", "BadNumber", "BadDesk",
          "Misfit")
BELOW_MISSING = ("NoPlace", "NoOffer", "NoPrime")
FIELDS = {name: ("part",) for name in PARTED}
FIELDS.update({name: ("value",) for name in BELOW_MISSING})
FIELDS.update({
    "Missing": ("value",), "Twice": ("value",), "ByZero": (), "Beyond": ("least",), "Impossible": ("paper",),
    "TooMany": ("what", "most"), "Nothing": (), "BadText": ("line", "item"), "BadLine": ("line", "error"),
})
ANY_VALUES = (None, True, 0, -5, 10 ** 5000, "offers", [1, [2]], (1, 2), {}, Odd(), ValueError("x"))


class Fields(unittest.TestCase):
    """Each error keeps its fields, any values, told by place or by name."""

    def made(self, make, names, values):
        by_place = make(*values)
        by_name = make(**dict(zip(names, values)))
        for error in (by_place, by_name):
            self.assertIs(type(error), make)
            for name, value in zip(names, values):
                self.assertIs(getattr(error, name), value)

    def test_fields(self):
        for name, names in FIELDS.items():
            make = getattr(errors, name)
            for at, value in enumerate(ANY_VALUES):
                other = ANY_VALUES[at - 1]
                self.made(make, names, (value, other)[:len(names)])

    def test_one_by_name_one_by_place(self):
        for name in ("TooMany", "BadText", "BadLine"):
            first, last = FIELDS[name]
            error = getattr(errors, name)("a", **{last: "b"})
            self.assertEqual((getattr(error, first), getattr(error, last)), ("a", "b"))

    def test_raised_and_caught(self):
        for name, names in FIELDS.items():
            make = getattr(errors, name)
            with self.assertRaises(ValueError) as caught:
                raise make(*names)
            self.assertIs(type(caught.exception), make)
            self.assertIsInstance(str(caught.exception), str)


class Places(unittest.TestCase):
    """Where each error stands."""

    def test_base(self):
        self.assertEqual(NearError.__bases__, (ValueError,))

    def test_directly_below(self):
        for name in FIELDS:
            expected = Missing if name in BELOW_MISSING else NearError
            self.assertEqual(getattr(errors, name).__bases__, (expected,), name)

    def test_defined_there(self):
        for name in (*FIELDS, "NearError"):
            self.assertEqual(getattr(errors, name).__module__, "allnear.errors")
            self.assertEqual(getattr(errors, name).__name__, name)

    def test_none_below_another(self):
        for name in FIELDS:
            for other in FIELDS:
                below = issubclass(getattr(errors, name), getattr(errors, other))
                expected = name == other or (other == "Missing" and name in BELOW_MISSING)
                self.assertEqual(below, expected, (name, other))


if __name__ == "__main__":
    unittest.main()
