"""The classes of rivalprices/errors.py."""

import unittest

from rivalprices import errors

DIRECT = (
    "InvalidRatio", "Singular", "InvalidMarket", "UnknownName", "DuplicateName", "InvalidMerger",
    "InvalidCommand", "InvalidLine",
)


class ErrorClasses(unittest.TestCase):
    def test_the_base_is_a_value_error(self):
        self.assertEqual(errors.PriceError.__bases__, (ValueError,))

    def test_all_others_stand_directly_under_the_base(self):
        for name in DIRECT:
            with self.subTest(name=name):
                found = getattr(errors, name)
                self.assertEqual(found.__bases__, (errors.PriceError,))
                self.assertEqual(found.__name__, name)

    def test_all_but_a_line_are_raised_with_a_text(self):
        for name in DIRECT[:-1]:
            with self.subTest(name=name):
                with self.assertRaises(ValueError) as caught:
                    raise getattr(errors, name)("why")
                self.assertEqual(str(caught.exception), "why")

    def test_a_line_has_its_number(self):
        for line in (1, 2, 17):
            error = errors.InvalidLine(line)
            self.assertEqual(error.line, line)
            self.assertIs(type(error.line), int)
            self.assertIsInstance(error, errors.PriceError)


if __name__ == "__main__":
    unittest.main()
