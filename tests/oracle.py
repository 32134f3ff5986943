"""What the document says, said again in the most direct way, to compare the program with."""

import itertools
import unittest

CODES = (
    (),
    ("a",),
    ("abc",),
    ("a", "ab", "ba"),
    ("ba", "ab", "a"),
    ("a", "aa", "aaa"),
    ("aaa", "a", "aa"),
    ("ab", "a", "aab", "aa"),
    ("a", "b", "c"),
    ("a", "b", "c", "ab", "bc", "abc"),
    ("c", "cb", "bc", "ccb", "bb", "cbcbc"),
    ("aabba", "ab", "ba", "aab", "bba", "b"),
    ("a", "ab", "bb"),
    ("ab", "ba"),
)

LONG = "abcabcabcabcabcabcabcabc"


def strings_up_to(most, letters="abc"):
    """All strings of at most so many of the letters, in order by length."""
    return [
        "".join(row)
        for many in range(most + 1)
        for row in itertools.product(letters, repeat=many)
    ]


def all_parses(code, string):
    """All parses of the string, in order as tuples."""
    if string == "":
        return [()]
    found = []
    for number, word in enumerate(code):
        if string[:len(word)] == word:
            found += [(number,) + rest for rest in all_parses(code, string[len(word):])]
    return sorted(found)


def places_of(code, parse):
    """The boundaries of a parse."""
    return {
        sum(len(code[number]) for number in parse[:many])
        for many in range(len(parse) + 1)
    }


class CodeCase(unittest.TestCase):
    """A test case that can ask for an error with its attribute, and for results of a kind."""

    def assert_error(self, error, attribute, word, function, *arguments):
        with self.subTest(function=function.__name__, arguments=arguments):
            with self.assertRaises(error) as caught:
                function(*arguments)
            self.assertIs(type(caught.exception), error)
            self.assertEqual(getattr(caught.exception, attribute), word)

    def assert_same(self, result, expected):
        """Compare results together with their kinds, also of what is in tuples: True is not 1."""
        self.assertEqual(result, expected)
        self.assertIs(type(result), type(expected))
        if isinstance(expected, (tuple, list)):
            for item, wanted in zip(result, expected):
                self.assert_same(item, wanted)
