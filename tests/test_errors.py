import unittest

from provenames import errors

NAMES = ("BadName", "BadRecord", "BadEdition", "BadOctets", "ZoneConflict", "DeskConflict", "Unknown")


class ErrorsTest(unittest.TestCase):
    def test_every_error_is_a_provenames_error_and_a_value_error(self):
        self.assertTrue(issubclass(errors.ProvenamesError, ValueError))
        for name in NAMES:
            with self.subTest(name=name):
                self.assertTrue(issubclass(getattr(errors, name), errors.ProvenamesError))

    def test_no_error_is_one_of_the_others(self):
        for name in NAMES:
            for other in NAMES:
                if name != other:
                    with self.subTest(name=name, other=other):
                        self.assertFalse(issubclass(getattr(errors, name), getattr(errors, other)))

    def test_no_error_is_another_error_of_python(self):
        for name in NAMES:
            with self.subTest(name=name):
                bases = getattr(errors, name).__mro__
                self.assertEqual(bases[1:], (errors.ProvenamesError,) + ValueError.__mro__)

    def test_errors_can_be_raised_and_caught_by_name(self):
        for name in NAMES:
            with self.subTest(name=name):
                with self.assertRaises(getattr(errors, name)):
                    raise getattr(errors, name)("why")

    def test_errors_are_defined_in_their_module(self):
        for name in NAMES + ("ProvenamesError",):
            with self.subTest(name=name):
                self.assertEqual(getattr(errors, name).__module__, "provenames.errors")


if __name__ == "__main__":
    unittest.main()
