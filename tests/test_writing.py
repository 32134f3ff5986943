"""Points 107, 113 and 116: what is a book, and how codes and books are written."""

import unittest

from syncedwords.errors import BadValue, TextError
from syncedwords.reading import next_tokens, read_book, read_code
from syncedwords.writing import book_text, code_text, is_book
from tests.oracle import CODES, CodeCase
from tests.test_reading import chosen_books
from tests.test_scanning import WRONG_TEXTS
from tests.wrong import WRONG_CODES, WRONG_PARSES, WrongCalls

CODE = ("a", "ab", "ba")
SIX = ((), (0,), (1,), (2,), (0, 0), (1, 2))
WRONG_BOOKS = (
    None, True, False, 0, 1, "", "a: 0", (), [], {}, b"a", CODE, (CODE,), (CODE, ()), (CODE, SIX, SIX), (CODE, SIX, None), (SIX, CODE), [CODE, SIX], {0: CODE, 1: SIX},
    (list(CODE), SIX), (CODE, list(SIX)), (CODE, [()]), (CODE, ([],)), (CODE, ([0],)), (CODE, SIX + ((),)), (CODE, SIX * 2), (CODE, None), (CODE, 0), (CODE, "0"),
    (CODE, ((3,),)), (CODE, ((0,), (0, 3))), (CODE, ((-1,),)), (CODE, ((True,),)), (CODE, ((0, False),)), (CODE, ((0.0,),)), (CODE, (("0",),)), (CODE, ((None,),)),
    (CODE, (0,)), (CODE, (0, 1)), (CODE, (None,)), (CODE, ("",)), (CODE, ((), "")), (CODE, ((0,) * 25,)), (CODE, ((1,) * 13,)), (CODE, ((), (1,) * 12 + (0,))),
    (("a", "a"), ((),)), (("",), ((),)), (("d",), ((),)), (("abcabc",), ((),)), ((), ((0,),)), ((), ()), (("a", "b", "c", "aa", "bb", "cc", "ab"), ((),)), ("a", ((0,),)),
    (CODE, ((2 ** 70,),)), (CODE, {()}), (CODE, b"\0"), ("ab", SIX), (("a",), (((0,),),)), (CODE, range(1)), (None, None), (CODE, ((0,) * 100000,)),
)
WRONG_KINDS = (None, True, False, 0, 1, "", "Code", "BOOK", "codes", "book ", " book", "a", "text", "codebook", ("code",), ["book"], {"code"}, b"code", (), [], "code\n")


def is_listed_book(value):
    """What a book is, by the words of point 107."""
    if type(value) is not tuple or len(value) != 2:
        return False
    code, parses = value
    if type(code) is not tuple or type(parses) is not tuple or not 1 <= len(parses) <= 6 or len(code) > 6:
        return False
    for word in code:
        if type(word) is not str or not 1 <= len(word) <= 5 or set(word) - set("abc") or code.count(word) > 1:
            return False
    for parse in parses:
        if type(parse) is not tuple or any(type(number) is not int or not 0 <= number < len(code) for number in parse):
            return False
        if sum(len(code[number]) for number in parse) > 24:
            return False
    return True


class IsBook(CodeCase):
    """Point 107."""

    def assert_book(self, value, expected):
        with self.subTest(value=str(value)[:200]):
            self.assertEqual(is_listed_book(value), expected)
            self.assert_same(is_book(value), expected)

    def test_books(self):
        for book in chosen_books(300, 300):
            self.assert_book(book, True)
        for code in CODES:
            for many in range(1, 7):
                self.assert_book((code, ((),) * many), True)

    def test_what_only_nearly_is_one(self):
        for value in WRONG_BOOKS:
            self.assert_book(value, False)

    def test_none_one_six_and_seven_parses(self):
        for many in range(9):
            self.assert_book((CODE, ((0, 1),) * many), 1 <= many <= 6)

    def test_24_and_25_letters(self):
        for code, parse in ((("a",), (0,) * 24), (("ab", "a"), (0,) * 12), (("abcab", "abca"), (0, 0, 0, 0, 1)), (("abc",), (0,) * 8)):
            self.assert_book((code, (parse,)), True)
            self.assert_book((code, ((), (0,), parse)), True)
            for number in range(len(code)):
                self.assert_book((code, (parse + (number,),)), False)
                self.assert_book((code, (parse, (), parse + (number,))), False)

    def test_parses_and_codes_of_other_kinds(self):
        for parse in WRONG_PARSES:
            self.assert_book((CODE, (parse,)), False)
            self.assert_book((CODE, ((0,), parse)), False)
            self.assert_book((CODE, (parse, (0,))), False)
        for code in WRONG_CODES:
            self.assert_book((code, ((),)), False)
            self.assert_book((code, ((0,),)), False)

    def test_lists_in_place_of_tuples(self):
        self.assert_book(((("a",), ((0,),))), True)
        for value in ([("a",), ((0,),)], (["a"], ((0,),)), (("a",), [(0,)]), (("a",), ([0],))):
            self.assert_book(value, False)


class Written(CodeCase):
    """Point 113."""

    def test_codes(self):
        for code, text in (((), ""), (("a",), "a"), (("a", "ab"), "a ab"), (("ba", "abcab", "a"), "ba abcab a"), (("a", "b", "c", "aa", "bb", "cc"), "a b c aa bb cc")):
            self.assert_same(code_text(code), text)

    def test_books(self):
        for book, text in (
            (((), ((),)), ":"), (((), ((),) * 6), ":;;;;;"), ((("a",), ((0, 0), (), (0,))), "a: 0 0;; 0"), ((("a", "ab"), ((1,),)), "a ab: 1"), ((("a",), ((),)), "a:"),
            ((CODE, SIX), "a ab ba:; 0; 1; 2; 0 0; 1 2"), ((CODE, ((0, 2), (1, 0))), "a ab ba: 0 2; 1 0"), ((("a",), ((), (0,))), "a:; 0"), ((("a",), ((0,), ())), "a: 0;"),
        ):
            self.assert_same(book_text(book), text)

    def test_by_the_words_of_the_point(self):
        for code, parses in chosen_books(200, 301):
            text = ""
            for at, word in enumerate(code):
                text += (" " if at else "") + word
            self.assert_same(code_text(code), text)
            text += ":"
            for at, parse in enumerate(parses):
                for number in parse:
                    text += f" {number}"
                text += ";" if at < len(parses) - 1 else ""
            self.assert_same(book_text((code, parses)), text)

    def test_every_book_has_a_text(self):
        book = (("a", "b", "c", "aaaaa", "bbbbb", "ccccc"), ((0,) * 24,) * 6)
        self.assertLessEqual(len(book_text(book)), 500)
        self.assert_same(read_book(book_text(book)), book)


class WrongArguments(WrongCalls, CodeCase):
    """Point 116."""

    CALLS = (
        (next_tokens, ("a ab: 0", "book"), (("text", WRONG_TEXTS), ("kind", WRONG_KINDS))),
        (read_code, ("a ab",), (("text", WRONG_TEXTS),)),
        (read_book, ("a ab: 0",), (("text", WRONG_TEXTS),)),
        (code_text, (CODE,), (("code", WRONG_CODES),)),
        (book_text, ((CODE, SIX),), (("book", WRONG_BOOKS),)),
    )

    def test_500_and_501_characters(self):
        text = "a: 0" + " " * 496
        self.assert_same(next_tokens(text, "book"), ["a number", '";"', "the end"])
        self.assert_same(read_book(text), (("a",), ((0,),)))
        self.assert_same(read_code(" " * 499 + "a"), ("a",))
        for text in (text + " ", " " * 501, "d" * 501, "a " * 250 + "a"):
            self.assert_error(BadValue, "name", "text", next_tokens, text, "book")
            self.assert_error(BadValue, "name", "text", next_tokens, text, "books")
            self.assert_error(BadValue, "name", "text", read_code, text)
            self.assert_error(BadValue, "name", "text", read_book, text)

    def test_line_feeds(self):
        for text in ("\na: 0", "a:\n 0", "a: 0\n", "\n", "d\n", "a a\n"):
            self.assert_error(BadValue, "name", "text", next_tokens, text, "book")
            self.assert_error(BadValue, "name", "text", read_code, text)
            self.assert_error(BadValue, "name", "text", read_book, text)

    def test_a_wrong_kind_comes_before_a_problem_of_the_text(self):
        for kind in WRONG_KINDS:
            for text in ("d", "abcabc", ": :", "0"):
                self.assert_error(BadValue, "name", "kind", next_tokens, text, kind)
        self.assert_error(TextError, "column", 1, next_tokens, "d", "code")
        self.assert_error(TextError, "column", 3, next_tokens, ": :", "book")


if __name__ == "__main__":
    unittest.main()
