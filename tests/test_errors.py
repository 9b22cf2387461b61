import unittest

from cherrystone import errors

NAMES = ("BadGraph", "BadFamily", "BadArgument", "BadText", "TooLarge", "BadLine")


class Errors(unittest.TestCase):
    def test_common_error_is_a_value_error(self):
        self.assertEqual(errors.CherrystoneError.__bases__, (ValueError,))

    def test_each_error_is_directly_under_the_common_one(self):
        for name in NAMES:
            self.assertEqual(getattr(errors, name).__bases__, (errors.CherrystoneError,), name)

    def test_no_error_is_caught_as_another_one(self):
        for name in NAMES:
            for other in NAMES:
                related = issubclass(getattr(errors, name), getattr(errors, other))
                self.assertEqual(related, name == other, (name, other))

    def test_errors_are_raised_and_caught(self):
        for name in NAMES:
            with self.assertRaises(errors.CherrystoneError):
                raise getattr(errors, name)("why")
            with self.assertRaises(ValueError):
                raise getattr(errors, name)()


if __name__ == "__main__":
    unittest.main()
