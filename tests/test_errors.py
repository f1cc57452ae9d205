import unittest

from offing.errors import BadBlock, BadNumbers, OffingError


class Errors(unittest.TestCase):
    def test_all_are_errors_of_values(self):
        self.assertTrue(issubclass(OffingError, ValueError))
        self.assertTrue(issubclass(BadNumbers, OffingError))
        self.assertTrue(issubclass(BadBlock, OffingError))

    def test_neither_is_the_other(self):
        self.assertFalse(issubclass(BadNumbers, BadBlock))
        self.assertFalse(issubclass(BadBlock, BadNumbers))

    def test_the_argument_is_an_attribute(self):
        for word in ("end", "count", "rest", ""):
            self.assertEqual(BadNumbers(word).why, word)
            self.assertEqual(BadBlock(word).fault, word)
        self.assertEqual(BadNumbers(why="width").why, "width")
        self.assertEqual(BadBlock(fault="members").fault, "members")

    def test_the_base_catches_both(self):
        for error in (BadNumbers("end"), BadBlock("members"), OffingError("text")):
            with self.assertRaises(OffingError) as caught:
                raise error
            self.assertIs(caught.exception, error)
