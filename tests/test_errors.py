"""The errors of the package."""

import unittest

from fourstones import errors
from fourstones.errors import BadText, Misfit, StoneError, TooMany

WITH_PART = (
    "BadNumber", "BadFloor", "BadCell", "BadWall", "BadMouse", "BadTrip", "BadScript", "BadReckoner", "Misfit",
)
FIELDS = {**{name: ("part",) for name in WITH_PART}, "TooMany": ("what", "most"), "BadText": ("line", "item")}
VALUES = ("cells", "", "a {b} \n", 0, -7, 10 ** 6000, None, True, [1, [2]], (3, (4,)), {}, b"x", object())


class ErrorsTest(unittest.TestCase):
    def each(self):
        for name, fields in FIELDS.items():
            yield getattr(errors, name), fields

    def test_all_are_there(self):
        own = {name for name, value in vars(errors).items() if isinstance(value, type)}
        self.assertEqual(own, {*FIELDS, "StoneError"})
        for name in own:
            self.assertEqual(getattr(errors, name).__module__, "fourstones.errors")

    def test_fields_by_place_and_by_name(self):
        for made, fields in self.each():
            for value in VALUES:
                values = [value, [value]][:len(fields)]
                for error in (made(*values), made(**dict(zip(fields, values)))):
                    for field, kept in zip(fields, values):
                        self.assertIs(getattr(error, field), kept)
                    self.assertIsInstance(str(error), str)

    def test_fields_are_no_more_and_no_less(self):
        for made, fields in self.each():
            self.assertRaises(TypeError, made)
            self.assertRaises(TypeError, made, *range(len(fields) + 1))

    def test_two_fields_apart(self):
        many, text = TooMany(most=3, what="steps"), BadText(item=5, line=0)
        self.assertEqual((many.what, many.most, text.line, text.item), ("steps", 3, 0, 5))

    def test_right_above(self):
        self.assertEqual(StoneError.__bases__, (ValueError,))
        for made, _ in self.each():
            self.assertEqual(made.__bases__, (StoneError,))
            self.assertEqual(made.__mro__[1:], (StoneError, *ValueError.__mro__))

    def test_raised_and_caught(self):
        for made, fields in self.each():
            values = [f"field {at}" for at in range(len(fields))]
            for caught in (made, StoneError, ValueError):
                with self.assertRaises(caught) as held:
                    raise made(*values)
                self.assertEqual([getattr(held.exception, field) for field in fields], values)

    def test_what_was_passed_stays(self):
        value = [1, [2]]
        error = Misfit(value)
        self.assertEqual((value, error.part is value), ([1, [2]], True))


if __name__ == "__main__":
    unittest.main()
