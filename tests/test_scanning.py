"""Points 107, 108, 115 and 116, of scan: the tokens of texts, and their problems."""

import itertools
import random
import re
import unittest

from syncedwords.errors import BadValue, TextError
from syncedwords.scanning import scan
from tests.oracle import CodeCase

NO_TOKEN = "no token begins here"
LONG_WORD = "a word has at most 5 letters"
LONG_NUMBER = "a number has at most 6 digits"
KINDS = (("word", "[abc]+"), ("number", "[0-9]+"), ("sign", "[:;]"))
# No blank, no letter of a word, no digit from 0 to 9, no sign.
OTHERS = (
    [chr(code) for code in range(33, 127) if chr(code) not in "abc0123456789:;"]
    + list("\t\r\v\f\0\x1b\x1c\x7f\x85\xa0\xad")
    + ["\u0430", "\u0441", "\u1d43", "\uff41", "\xe0", "\u0131", "\U0001f600", "\ud800"]
    + ["\u0663", "\u0967", "\uff11", "\xb2", "\u2460", "\u00bd", "\u2028", "\u2029", "\u2003", "\u3000", "\u200b", "\ufeff", "\uff1a", "\u037e"]
)
WRONG_TEXTS = (
    None, True, False, 0, 1, 500, 0.5, (), ("a",), [], ["a"], {}, {"a"}, b"", b"a", object(), "\n", "a\n", "\na", "a\nb", "a \n b", "a b: 0\n", "a\r\n",
    "a" * 501, " " * 501, "a " * 251, "d" * 501, "\n" * 501, "a" * 1000, "a b" * 300, " " * 499 + "\n",
)


def listed(text):
    """The tokens of the text, or the column and the words of its first problem, by expressions for the tokens."""
    tokens = []
    place = 0
    while place < len(text):
        if text[place] == " ":
            place += 1
            continue
        found = [(kind, re.compile(form).match(text, place)) for kind, form in KINDS]
        found = [(kind, match.group()) for kind, match in found if match]
        if not found:
            return place + 1, NO_TOKEN
        kind, characters = found[0]
        if kind == "word" and len(characters) > 5:
            return place + 1, LONG_WORD
        if kind == "number" and len(characters) > 6:
            return place + 1, LONG_NUMBER
        tokens.append((kind, characters, place + 1))
        place += len(characters)
    return tokens + [("end", "", len(text) + 1)]


class ScanCase(CodeCase):
    def assert_problem(self, text, column, words):
        with self.subTest(text=text):
            with self.assertRaises(TextError) as caught:
                scan(text)
            self.assert_same((caught.exception.column, caught.exception.words), (column, words))

    def assert_scanned(self, text):
        expected = listed(text)
        if isinstance(expected, tuple):
            self.assert_problem(text, *expected)
        else:
            with self.subTest(text=text):
                self.assert_same(scan(text), expected)


class Tokens(ScanCase):
    """Points 107, 108 and 115."""

    def test_the_example_of_the_document(self):
        self.assert_same(scan("a ab ba: 0 2; 1 0"), [
            ("word", "a", 1), ("word", "ab", 3), ("word", "ba", 6), ("sign", ":", 8), ("number", "0", 10), ("number", "2", 12), ("sign", ";", 13),
            ("number", "1", 15), ("number", "0", 17), ("end", "", 18),
        ])

    def test_without_blanks(self):
        self.assert_same(scan("ab:0;12ca7"), [
            ("word", "ab", 1), ("sign", ":", 3), ("number", "0", 4), ("sign", ";", 5), ("number", "12", 6), ("word", "ca", 8), ("number", "7", 10), ("end", "", 11),
        ])
        self.assert_same(scan("::;;"), [("sign", ":", 1), ("sign", ":", 2), ("sign", ";", 3), ("sign", ";", 4), ("end", "", 5)])

    def test_blanks(self):
        self.assert_same(scan("  ab   c "), [("word", "ab", 3), ("word", "c", 8), ("end", "", 10)])
        self.assert_same(scan(" 1 2"), [("number", "1", 2), ("number", "2", 4), ("end", "", 5)])
        self.assert_same(scan("12 "), [("number", "12", 1), ("end", "", 4)])
        for many in (1, 2, 499, 500):
            self.assert_same(scan(" " * many), [("end", "", many + 1)])

    def test_the_empty_text(self):
        self.assert_same(scan(""), [("end", "", 1)])

    def test_as_long_as_possible(self):
        self.assert_same(scan("abcab"), [("word", "abcab", 1), ("end", "", 6)])
        self.assert_same(scan("000123"), [("number", "000123", 1), ("end", "", 7)])
        self.assert_same(scan("999999"), [("number", "999999", 1), ("end", "", 7)])
        self.assert_same(scan("abcab 000000 ab"), [("word", "abcab", 1), ("number", "000000", 7), ("word", "ab", 14), ("end", "", 16)])

    def test_all_short_texts(self):
        for many in range(5):
            for row in itertools.product("ab1 :;d", repeat=many):
                self.assert_scanned("".join(row))

    def test_chosen_texts(self):
        numbers = random.Random(280)
        pieces = ["a", "cab", "abcab", "bbbbbb", "0", "17", "000000", "1234567", ":", ";", " ", "  ", "", "d", "A", "\t"]
        chances = [6, 6, 3, 1, 6, 6, 3, 1, 6, 6, 20, 5, 10, 1, 1, 1]
        for _ in range(3000):
            self.assert_scanned("".join(numbers.choices(pieces, chances, k=numbers.randrange(0, 30))))

    def test_blanks_between_tokens_change_columns_alone(self):
        numbers = random.Random(281)
        for _ in range(300):
            tokens = numbers.choices(["a", "cab", "0", "17", ":", ";"], k=numbers.randrange(0, 12))
            gaps = [" " * numbers.randrange(1, 4) for _ in range(len(tokens) + 1)]
            text = gaps[0] + "".join(token + gap for token, gap in zip(tokens, gaps[1:]))
            self.assertEqual([characters for _, characters, _ in scan(text)], tokens + [""])
            self.assertEqual([text[column - 1:column - 1 + len(token)] for token, (_, _, column) in zip(tokens, scan(text))], tokens)


class Problems(ScanCase):
    """Point 108."""

    def test_five_and_six_letters(self):
        for ahead in ("", " ", "a ", "12", ": ", "abcab "):
            self.assertEqual(scan(ahead + "abcab")[-2], ("word", "abcab", len(ahead) + 1))
            for word in ("abcabc", "aaaaaa", "c" * 400):
                self.assert_problem(ahead + word, len(ahead) + 1, LONG_WORD)
                self.assert_problem(ahead + word + " a", len(ahead) + 1, LONG_WORD)

    def test_six_and_seven_digits(self):
        for ahead in ("", " ", "a", "12 ", ": ", "000000 "):
            self.assertEqual(scan(ahead + "000001")[-2], ("number", "000001", len(ahead) + 1))
            for number in ("0000001", "1234567", "0" * 400, "9" * 7):
                self.assert_problem(ahead + number, len(ahead) + 1, LONG_NUMBER)
                self.assert_problem(ahead + number + ":", len(ahead) + 1, LONG_NUMBER)

    def test_each_character_that_no_token_has(self):
        for character in OTHERS:
            self.assert_problem(character, 1, NO_TOKEN)
            self.assert_problem("a" + character, 2, NO_TOKEN)
            self.assert_problem("ab 12: " + character + "a", 8, NO_TOKEN)
            self.assert_problem("a b " + character * 3, 5, NO_TOKEN)
            self.assert_problem("0" + character + "0", 2, NO_TOKEN)
            self.assert_problem(character + "abcabc", 1, NO_TOKEN)

    def test_the_first_of_several(self):
        self.assert_problem("abcabc 1234567 d", 1, LONG_WORD)
        self.assert_problem("1234567 abcabc d", 1, LONG_NUMBER)
        self.assert_problem("d abcabc 1234567", 1, NO_TOKEN)
        self.assert_problem("a d abcabc", 3, NO_TOKEN)
        self.assert_problem("a 12 abcabc d", 6, LONG_WORD)
        self.assert_problem("a 12 abcabcd", 6, LONG_WORD)
        self.assert_problem("a ;1234567abcabc", 4, LONG_NUMBER)
        self.assert_problem("abcab\t1234567", 6, NO_TOKEN)
        self.assert_problem("abcabdabc", 6, NO_TOKEN)

    def test_at_the_end_of_a_long_text(self):
        self.assert_problem("a " * 249 + "ad", 500, NO_TOKEN)
        self.assert_problem(" " * 499 + "A", 500, NO_TOKEN)
        self.assert_problem("a" * 500, 1, LONG_WORD)


class Texts(ScanCase):
    """Point 116, of scan."""

    def test_no_texts(self):
        for text in WRONG_TEXTS:
            self.assert_error(BadValue, "name", "text", scan, text)

    def test_500_and_501_characters(self):
        self.assert_same(scan("a" + " " * 499), [("word", "a", 1), ("end", "", 501)])
        self.assertEqual(len(scan("a " * 250)), 251)
        self.assertEqual(len(scan(":" * 500)), 501)
        for text in ("a" + " " * 500, "a " * 250 + "a", ":" * 501, "d" * 501):
            self.assert_error(BadValue, "name", "text", scan, text)

    def test_a_line_feed(self):
        for text in ("\n", "\na", "a\n", "a\nb", " \n", "\n\n", "d\n", "abcabc\n", "a" * 499 + "\n"):
            self.assert_error(BadValue, "name", "text", scan, text)

    def test_other_newlines_are_characters(self):
        for character in "\r\v\f\x1c\x1d\x1e\x85\u2028\u2029":
            self.assert_problem("a" + character + "b", 2, NO_TOKEN)


class Lists(CodeCase):
    """Point 2."""

    def test_a_returned_list_is_not_used_again(self):
        first = scan("a ab")
        first.append("more")
        first[0] = "other"
        self.assert_same(scan("a ab"), [("word", "a", 1), ("word", "ab", 3), ("end", "", 5)])


if __name__ == "__main__":
    unittest.main()
