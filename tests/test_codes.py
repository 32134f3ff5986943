"""Point 5: what is a code and what is a string, and what only nearly is."""

import unittest

from syncedwords.codes import is_code, is_string
from tests.oracle import CODES, LONG, strings_up_to

# No code and no string.
NEITHER = (
    True, False, None, 0, 1, 24, -1, 1.5, b"a", b"", [], {}, set(), frozenset(("a",)), object(), str, len,
    ["a"], ["a", "b"], {"a": True}, {"a"}, range(0), (("a",),), ("a", None), (None,), (True,), (0,), (1, 2),
)


class Codes(unittest.TestCase):
    def assert_code(self, value):
        self.assertIs(is_code(value), True, repr(value))

    def assert_no_code(self, value):
        self.assertIs(is_code(value), False, repr(value))

    def test_codes(self):
        for code in CODES:
            self.assert_code(code)

    def test_each_single_word(self):
        for word in strings_up_to(5):
            if word:
                self.assert_code((word,))

    def test_no_words(self):
        self.assert_code(())

    def test_six_words_and_seven(self):
        words = ("a", "b", "c", "aa", "bb", "cc", "ab")
        for many in range(7):
            self.assert_code(words[:many])
        self.assert_no_code(words)
        self.assert_no_code(tuple(strings_up_to(5)[1:]))

    def test_words_of_five_letters_and_of_six(self):
        self.assert_code(("abcab",))
        self.assert_code(("aaaaa", "bbbbb"))
        self.assert_no_code(("abcabc",))
        self.assert_no_code(("a", "abcabc"))
        self.assert_no_code(("aaaaaa", "b"))
        self.assert_no_code((LONG * 100,))

    def test_the_empty_word(self):
        self.assert_no_code(("",))
        self.assert_no_code(("a", ""))
        self.assert_no_code(("", "a", "b"))

    def test_a_word_twice(self):
        self.assert_no_code(("a", "a"))
        self.assert_no_code(("ab", "ba", "ab"))
        self.assert_no_code(("a", "b", "c", "ab", "bc", "a"))
        self.assert_no_code(("a", "b", "c", "ab", "bc", "bc"))
        self.assert_no_code(("abc", "a", "".join(["ab", "c"])))

    def test_a_sequence_of_its_own(self):
        self.assert_code(("c", "b", "a"))
        self.assert_code(("bbb", "a", "ab"))

    def test_other_letters(self):
        for word in ("d", "A", "ad", "da", "aBa", "a b", " a", "a ", "a\n", "\n", "\t", "0", "1", "-", "aa0", "\u00e4",
                     "\u0430", "\uff41", "a\x00", "\ud800"):
            self.assert_no_code((word,))
            self.assert_no_code(("a", "b", word))
            self.assert_no_code((word, "a", "b"))

    def test_a_list_in_place_of_a_tuple(self):
        self.assert_no_code([])
        self.assert_no_code(["a", "ab"])
        self.assert_no_code((["a"],))
        self.assert_no_code(("a", ["b"]))
        self.assert_no_code((("a", "b"),))

    def test_a_string_is_no_code(self):
        for value in ("", "a", "abc"):
            self.assert_no_code(value)

    def test_other_values(self):
        for value in NEITHER:
            self.assert_no_code(value)

    def test_other_items(self):
        for item in (True, False, None, 0, 1, 1.5, b"a", [], {}, set(), (), ("a",), object(), str):
            for value in ((item,), ("a", item), (item, "a"), ("a", "b", "c", "aa", "bb", item)):
                self.assert_no_code(value)


class Strings(unittest.TestCase):
    def assert_string(self, value):
        self.assertIs(is_string(value), True, repr(value))

    def assert_no_string(self, value):
        self.assertIs(is_string(value), False, repr(value))

    def test_short_strings(self):
        for string in strings_up_to(5):
            self.assert_string(string)

    def test_the_empty_string(self):
        self.assert_string("")

    def test_lengths_up_to_24_and_more(self):
        for many in range(25):
            for letters in (LONG, "a" * 24, "b" * 24, "c" * 24):
                self.assert_string(letters[:many])
        for many in (25, 26, 30, 48, 1000):
            self.assert_no_string("a" * many)
        self.assert_no_string(LONG + "a")
        self.assert_no_string("b" + LONG)

    def test_other_letters(self):
        for letter in ("d", "A", "B", "C", " ", "\n", "\t", "0", "9", ":", "-", "\u00e4", "\u0430", "\uff41", "\x00",
                       "\ud800"):
            self.assert_no_string(letter)
            self.assert_no_string("ab" + letter)
            self.assert_no_string(letter + "ab")
            self.assert_no_string(LONG[:23] + letter)
            self.assert_no_string(letter + LONG[1:])

    def test_other_values(self):
        for value in NEITHER:
            self.assert_no_string(value)
        for value in ((), ("a",), ("a", "b"), ["a"], bytes(3)):
            self.assert_no_string(value)


if __name__ == "__main__":
    unittest.main()
