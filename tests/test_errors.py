import unittest

from rowcoders import errors

NAMES = (
    "InvalidSize", "InvalidChain", "InvalidChains", "InvalidRow", "InvalidCode", "InvalidWritten",
    "InvalidSign", "InvalidCount", "NoChain", "TooLong", "NothingToUndo", "ParseError",
)


class Errors(unittest.TestCase):
    def test_each_one_is_a_direct_subclass(self):
        self.assertEqual(errors.CoderError.__bases__, (ValueError,))
        for name in NAMES:
            with self.subTest(name):
                error = getattr(errors, name)
                self.assertEqual(error.__bases__, (errors.CoderError,))
                self.assertEqual(error.__module__, "rowcoders.errors")

    def test_there_are_no_others(self):
        kinds = [name for name, value in vars(errors).items() if isinstance(value, type)]
        self.assertEqual(sorted(kinds), sorted(NAMES + ("CoderError",)))

    def test_they_can_be_caught_as_one(self):
        for name in NAMES:
            with self.subTest(name), self.assertRaises(errors.CoderError):
                raise getattr(errors, name)("why")


if __name__ == "__main__":
    unittest.main()
