import unittest

from penwright import errors
from penwright.errors import BadNote, NoNumber, NoPicture, NoRoom, NoStep, NoWord, PenError

SIX = (NoWord, NoPicture, NoRoom, NoStep, NoNumber, BadNote)


class ErrorClasses(unittest.TestCase):
    def test_any_refusal_is_a_value_error(self):
        self.assertTrue(issubclass(PenError, ValueError))

    def test_each_stands_under_pen_error(self):
        for one in SIX:
            with self.subTest(one=one):
                self.assertTrue(issubclass(one, PenError))
                self.assertIsNot(one, PenError)
                self.assertIs(getattr(errors, one.__name__), one)

    def test_none_stands_under_another(self):
        for one in SIX:
            for other in SIX:
                if one is not other:
                    with self.subTest(one=one, other=other):
                        self.assertFalse(issubclass(one, other))

    def test_each_is_raised_and_taken_by_name(self):
        for one in SIX:
            with self.subTest(one=one):
                with self.assertRaises(one):
                    raise one("words")
