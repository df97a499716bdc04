import unittest

from rowtrim import errors

NAMES = [
    "TooMany", "NoCrew", "NoTrial", "NoRower", "Twice", "NoName",
    "NoPiece", "NoNumber", "NothingLeft", "NoText", "NoRow",
]


class Errors(unittest.TestCase):
    def test_row_error_stands_under_value_error(self):
        self.assertTrue(issubclass(errors.RowError, ValueError))
        self.assertIsNot(errors.RowError, ValueError)

    def test_each_stands_under_row_error(self):
        for name in NAMES:
            with self.subTest(name):
                self.assertTrue(issubclass(getattr(errors, name), errors.RowError))
                self.assertIsNot(getattr(errors, name), errors.RowError)

    def test_none_stands_under_another(self):
        for name in NAMES:
            for other in NAMES:
                if name != other:
                    with self.subTest(name=name, other=other):
                        self.assertFalse(issubclass(getattr(errors, name), getattr(errors, other)))

    def test_too_many_has_its_number(self):
        for many in (0, 9, 41, 401, 40320):
            refusal = errors.TooMany(many)
            self.assertEqual(refusal.many, many)
            with self.assertRaises(errors.RowError) as caught:
                raise refusal
            self.assertEqual(caught.exception.many, many)

    def test_the_others_can_be_raised(self):
        for name in NAMES[1:]:
            with self.subTest(name), self.assertRaises(errors.RowError):
                raise getattr(errors, name)("why")


if __name__ == "__main__":
    unittest.main()
