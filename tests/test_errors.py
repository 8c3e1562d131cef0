"""The refusals: classes, families and fields, as the interface lists them."""

import unittest

from blotsum import errors

ASKED = ["NoDivisor", "NoFilling", "NoPaper"]
TOLD = ["NoSum", "NoEntry", "NoSpot", "NoFigures", "Clash", "TooMany", "TooFew", "NothingLeft", "NoText", "NoRow"]
FIELDS = {"NoDivisor": ["divisor"], "NoSpot": ["entry", "spot"], "Clash": ["entry", "spot"],
          "NoNumber": ["number", "among"]}


class Families(unittest.TestCase):
    def test_the_heads(self):
        self.assertEqual(errors.BlotError.__bases__, (ValueError,))
        self.assertTrue(issubclass(errors.AskedError, errors.BlotError))
        self.assertTrue(issubclass(errors.ToldError, errors.BlotError))
        self.assertFalse(issubclass(errors.AskedError, errors.ToldError))
        self.assertFalse(issubclass(errors.ToldError, errors.AskedError))

    def test_asked(self):
        for name in ASKED:
            kind = getattr(errors, name)
            self.assertTrue(issubclass(kind, errors.AskedError), name)
            self.assertFalse(issubclass(kind, errors.ToldError), name)

    def test_told(self):
        for name in TOLD:
            kind = getattr(errors, name)
            self.assertTrue(issubclass(kind, errors.ToldError), name)
            self.assertFalse(issubclass(kind, errors.AskedError), name)

    def test_no_number_is_no_blot_error(self):
        self.assertTrue(issubclass(errors.NoNumber, IndexError))
        self.assertFalse(issubclass(errors.NoNumber, ValueError))

    def test_none_is_under_another(self):
        kinds = [getattr(errors, name) for name in [*ASKED, *TOLD, "NoNumber"]]
        for kind in kinds:
            self.assertEqual([other for other in kinds if issubclass(kind, other)], [kind])


class Fields(unittest.TestCase):
    def test_fields_by_place_and_by_name(self):
        for name, fields in FIELDS.items():
            kind = getattr(errors, name)
            worths = [5, None][:len(fields)]
            for error in (kind(*worths), kind(**dict(zip(fields, worths)))):
                self.assertEqual([getattr(error, field) for field in fields], worths, name)

    def test_fields_of_any_length(self):
        for name, fields in FIELDS.items():
            error = getattr(errors, name)(*[10 ** 5000] * len(fields))
            self.assertEqual(getattr(error, fields[0]), 10 ** 5000)
            self.assertIsInstance(str(error), str)

    def test_the_others_are_made_of_a_text(self):
        for name in [*ASKED, *TOLD, "BlotError", "AskedError", "ToldError"]:
            if name not in FIELDS:
                self.assertEqual(str(getattr(errors, name)("a text")), "a text")


if __name__ == "__main__":
    unittest.main()
