"""Point 8 and the interface of errors.py: the five classes, their attributes, and how they derive."""

import copy
import itertools
import unittest

from syncedwords.errors import BadValue, CodeError, NotPossible, TextError, TooLarge

BELOW = (BadValue, TooLarge, NotPossible, TextError)


class Classes(unittest.TestCase):
    def test_all_derive_from_code_error(self):
        self.assertTrue(issubclass(CodeError, ValueError))
        for error in BELOW:
            self.assertTrue(issubclass(error, CodeError))
            self.assertIsNot(error, CodeError)

    def test_none_below_derives_from_another_one(self):
        for one, other in itertools.permutations(BELOW, 2):
            self.assertFalse(issubclass(one, other), (one, other))

    def test_defined_in_this_file(self):
        for error in BELOW + (CodeError,):
            self.assertEqual(error.__module__, "syncedwords.errors")


class Attributes(unittest.TestCase):
    def test_each_has_its_attribute(self):
        self.assertEqual(BadValue("code").name, "code")
        self.assertEqual(TooLarge("string").what, "string")
        self.assertEqual(NotPossible("message").why, "message")

    def test_text_error_has_two(self):
        error = TextError(7, "no token begins here")
        self.assertEqual(error.column, 7)
        self.assertEqual(error.words, "no token begins here")

    def test_attributes_belong_to_the_object(self):
        first, second = BadValue("code"), BadValue("other")
        self.assertEqual((first.name, second.name), ("code", "other"))

    def test_by_the_names_of_the_arguments(self):
        self.assertEqual(BadValue(name="code").name, "code")
        self.assertEqual(TooLarge(what="string").what, "string")
        self.assertEqual(NotPossible(why="message").why, "message")
        error = TextError(column=1, words="a")
        self.assertEqual((error.column, error.words), (1, "a"))

    def test_raised_and_caught(self):
        for error in (BadValue("code"), TooLarge("a"), NotPossible("a"), TextError(1, "a")):
            for base in (type(error), CodeError, ValueError):
                with self.assertRaises(base) as caught:
                    raise error
                self.assertIs(caught.exception, error)
        with self.assertRaises(CodeError):
            raise CodeError("a")

    def test_copies_keep_the_attributes(self):
        self.assertEqual(copy.copy(BadValue("code")).name, "code")
        error = copy.copy(TextError(3, "a"))
        self.assertEqual((error.column, error.words), (3, "a"))


if __name__ == "__main__":
    unittest.main()
