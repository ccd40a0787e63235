import unittest

from widekind.errors import NoKind, NoName, WideError


class Errors(unittest.TestCase):
    def test_which_stands_under_which(self):
        self.assertEqual(WideError.__bases__, (ValueError,))
        self.assertEqual(NoName.__bases__, (WideError,))
        self.assertEqual(NoKind.__bases__, (WideError,))

    def test_the_two_refusals_are_not_one(self):
        self.assertFalse(issubclass(NoName, NoKind))
        self.assertFalse(issubclass(NoKind, NoName))

    def test_each_is_raised_and_taken(self):
        for made in (WideError, NoName, NoKind):
            with self.assertRaises(WideError):
                raise made("words")


if __name__ == "__main__":
    unittest.main()
