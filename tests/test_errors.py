"""The errors: their base classes and what they keep."""

import unittest

from slowship import errors

KEPT = {
    LookupError: {
        "NoRange": "name", "NoEvent": "event", "NoArc": "name", "NoNumber": "number", "NoShip": "name",
        "NoWord": "word", "NothingDone": None,
    },
    ValueError: {"Twice": "name", "Ring": None, "NoPaper": None, "Unfit": None, "BadText": None, "BadLine": "number"},
}


class Errors(unittest.TestCase):
    def test_bases_and_values(self):
        for base, rows in KEPT.items():
            for name, kept in rows.items():
                with self.subTest(name):
                    made = getattr(errors, name)
                    self.assertEqual(made.__bases__, (base,))
                    self.assertEqual(made.__module__, "slowship.errors")
                    self.check_made(made, kept)

    def check_made(self, made, kept):
        if kept is None:
            self.assertEqual(vars(made()), {})
            return
        for value in ("sail", 10 ** 50, -3):
            self.assertEqual(vars(made(value)), {kept: value})
            self.assertEqual(vars(made(**{kept: value})), {kept: value})

    def test_raised_and_caught(self):
        with self.assertRaises(LookupError):
            raise errors.NoRange("f")
        with self.assertRaises(ValueError):
            raise errors.Ring()


if __name__ == "__main__":
    unittest.main()
