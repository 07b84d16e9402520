"""The refusals: their fields, and what they stand under."""

import unittest

from stintpurse import errors

FIELDS = {
    "Short": ("at", "lacks"),
    "BadBook": ("place", "why"),
    "NoPlace": ("place",),
    "TooMany": ("most",),
    "NoOrder": (),
    "NoMove": (),
    "BadCompany": (),
    "NoStanding": (),
    "NoWay": ("way",),
    "NoPurse": ("purse",),
    "NoPart": ("place",),
    "NoNumber": ("number",),
    "Long": (),
    "Doomed": ("lacks",),
    "NoStretch": (),
    "Begun": ("place",),
    "Nothing": (),
    "NoText": ("at",),
}


class Refusals(unittest.TestCase):
    def test_there_are_eighteen_and_no_others(self):
        found = {
            name for name, thing in vars(errors).items() if isinstance(thing, type) and issubclass(thing, ValueError)
        }
        self.assertEqual(len(FIELDS), 18)
        self.assertEqual(found, set(FIELDS) | {"StintError"})

    def test_all_stand_directly_under_the_one(self):
        self.assertEqual(errors.StintError.__bases__, (ValueError,))
        for name in FIELDS:
            self.assertEqual(getattr(errors, name).__bases__, (errors.StintError,), name)

    def test_each_is_made_of_its_fields_in_order(self):
        for name, fields in FIELDS.items():
            things = [("thing", number) for number in range(len(fields))]
            for error in (
                getattr(errors, name)(*things),
                getattr(errors, name)(**dict(zip(fields, things))),
            ):
                self.assertEqual(vars(error), dict(zip(fields, things)), name)

    def test_a_missing_field_is_no_refusal(self):
        for name, fields in FIELDS.items():
            if fields:
                with self.assertRaises(TypeError):
                    getattr(errors, name)(*fields[1:])

    def test_fields_may_be_anything(self):
        for thing in (None, True, [1], {"a": []}, "text", 10 ** 6000):
            for name, fields in FIELDS.items():
                error = getattr(errors, name)(*[thing for field in fields])
                for field in fields:
                    self.assertIs(getattr(error, field), thing)

    def test_they_are_caught_as_the_one_and_as_value_errors(self):
        for name, fields in FIELDS.items():
            for kind in (errors.StintError, ValueError):
                with self.assertRaises(kind):
                    raise getattr(errors, name)(*fields)


if __name__ == "__main__":
    unittest.main()
