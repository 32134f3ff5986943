"""Points 108 to 112, 114, 115 and 117: what can come in texts, and codes and books that are read."""

import itertools
import random
import unittest

from syncedwords.errors import TextError
from syncedwords.reading import next_tokens, read_book, read_code
from syncedwords.writing import book_text, code_text, is_book
from tests.families import chosen_codes
from tests.oracle import CODES, CodeCase
from tests.test_scanning import listed

NO_TOKEN = "no token begins here"
LONG_WORD = "a word has at most 5 letters"
LONG_NUMBER = "a number has at most 6 digits"
SIX_WORDS = "there are at most 6 words"
SAME_WORD = "this word stands already"
SIX_PARSES = "there are at most 6 parses"
NO_WORD = "there is no such word"
LONG_STRING = "a string has at most 24 letters"

IN_CODE = ["a word", "the end"]
IN_WORDS = ["a word", '":"']
IN_PARSES = ["a number", '";"', "the end"]
EXPECTED = {
    "code": "expected a word or the end",
    "words": 'expected a word or ":"',
    "parses": 'expected a number, ";" or the end',
}
# A token of each kind, by how it is told; the end has none.
TOKENS = {"a word": ("b", "cab"), "a number": ("0", "17"), '":"': (":",), '";"': (";",)}


def chosen_books(many, seed):
    numbers = random.Random(seed)
    books = []
    for code in chosen_codes(many, seed + 1) + [(), ("a",), ("a", "b", "c", "aa", "bb", "cc")]:
        parses = []
        for _ in range(numbers.randrange(1, 7)):
            parse = ()
            while code and numbers.randrange(6):
                longer = parse + (numbers.randrange(len(code)),)
                if sum(len(code[number]) for number in longer) <= 24:
                    parse = longer
            parses.append(parse)
        books.append((code, tuple(parses)))
    return books


def plainly_read(text, kind):
    """What a text is read as, or the column and the words of its problem, token by token with all rules written out."""
    tokens = listed(text)
    if isinstance(tokens, tuple):
        return tokens
    seen = ""
    for one, characters, column in tokens:
        sign = characters if one == "sign" else one[0]
        coming = "we" if kind == "code" else "n;e" if ":" in seen else "w:"
        if sign not in coming:
            return column, EXPECTED["code" if kind == "code" else "parses" if ":" in seen else "words"]
        seen += sign
    words, parses = [], [[]]
    for one, characters, column in tokens:
        if one == "word" and len(words) > 5:
            return column, SIX_WORDS
        if one == "word" and words.count(characters) > 0:
            return column, SAME_WORD
        if characters == ";" and len(parses) > 5:
            return column, SIX_PARSES
        if one == "number" and not 0 <= int(characters) < len(words):
            return column, NO_WORD
        if one == "word":
            words.append(characters)
        if characters == ";":
            parses.append([])
        if one == "number":
            parses[-1].append(int(characters))
            if sum(len(words[number]) for number in parses[-1]) > 24:
                return column, LONG_STRING
    return tuple(words) if kind == "code" else (tuple(words), tuple(tuple(parse) for parse in parses))


class ReadingCase(CodeCase):
    def assert_problem(self, function, text, column, words, *more):
        with self.subTest(function=function.__name__, text=text, more=more):
            with self.assertRaises(TextError) as caught:
                function(text, *more)
            self.assert_same((caught.exception.column, caught.exception.words), (column, words))


class NextTokens(ReadingCase):
    """Points 109 and 110."""

    def assert_next(self, kind, text, expected):
        with self.subTest(kind=kind, text=text):
            self.assert_same(next_tokens(text, kind), expected)

    def test_in_a_code(self):
        for text in ("", " ", "a", "a ab", "  a  ab ", "a a a", "abcab" + " a" * 7, "a " * 250):
            self.assert_next("code", text, IN_CODE)

    def test_in_the_words_of_a_book(self):
        for text in ("", " ", "a", "a ab", " a  ab ", "a a a", "abcab" + " a" * 7, "a " * 250):
            self.assert_next("book", text, IN_WORDS)

    def test_in_the_parses_of_a_book(self):
        for text in (":", "a:", " a : ", "a: 0", "a:0", "a: 0 0", "a: 0;", "a:;", "a:;;;;;;;;", "a: 7 999999", "a a: 0; 1 ;", ":0;0", ": ; 0 1;", "a:" + " 0" * 200):
            self.assert_next("book", text, IN_PARSES)

    def test_the_examples_of_the_interface(self):
        self.assert_next("code", "a ab", ["a word", "the end"])
        self.assert_next("book", "", ["a word", '":"'])
        self.assert_next("book", "a: 0", ["a number", '";"', "the end"])

    def test_each_beginning_of_a_text(self):
        for text in ("a ab ba", "abcab c b aa bb cc"):
            for many in range(len(text) + 1):
                self.assert_next("code", text[:many], IN_CODE)
        for text in ("a ab ba: 0 2; 1 0", "a ab: 0 1;; 1;0 0;", ":;;", " : "):
            for many in range(len(text) + 1):
                self.assert_next("book", text[:many], IN_PARSES if ":" in text[:many] else IN_WORDS)

    def test_a_list_is_not_used_again(self):
        for text, kind in (("", "code"), ("", "book"), (":", "book")):
            first = next_tokens(text, kind)
            expected = list(first)
            first.append("more")
            first[0] = "other"
            self.assert_next(kind, text, expected)


class Grammar(ReadingCase):
    """Points 109 and 110: at each place what can come, and each token that cannot."""

    PLACES = (
        ("code", "code", IN_CODE, ("", "a", "a ab", "a a a a a a a", "  cab ")),
        ("book", "words", IN_WORDS, ("", "a", "a ab", "a a a a a a a", "  cab ")),
        ("book", "parses", IN_PARSES, (":", "a:", "a: 0", "a: 0 7", "a: 0;", "a:;;;;;;;;", "a a : ; 0", "a : 0 ; 0 0")),
    )

    def reader(self, kind):
        return {"code": read_code, "book": read_book}[kind]

    def test_each_token_that_cannot_come(self):
        for kind, place, coming, texts in self.PLACES:
            for text in texts:
                for told, tokens in TOKENS.items():
                    for token in tokens:
                        if told in coming:
                            next_tokens(text + " " + token, kind)
                        else:
                            self.assert_refused(kind, text + " ", token, EXPECTED[place])

    def assert_refused(self, kind, ahead, token, words):
        for behind in ("", " ", " a", ":", " 0;", " ; : a 0"):
            text = ahead + token + behind
            self.assert_problem(self.reader(kind), text, len(ahead) + 1, words)
            self.assert_problem(next_tokens, text, len(ahead) + 1, words, kind)

    def test_the_end_that_comes_too_early(self):
        for text in ("", " ", "a", "a ab", "a ab  ", "a " * 250, "a a"):
            self.assert_problem(read_book, text, len(text) + 1, EXPECTED["words"])
            self.assert_same(next_tokens(text, "book"), IN_WORDS)

    def test_no_blank_is_needed(self):
        self.assert_problem(read_code, "a0", 2, EXPECTED["code"])
        self.assert_problem(read_code, "ab:", 3, EXPECTED["code"])
        self.assert_problem(read_code, ";", 1, EXPECTED["code"])
        self.assert_problem(read_book, "a0:", 2, EXPECTED["words"])
        self.assert_problem(read_book, "a;:", 2, EXPECTED["words"])
        self.assert_problem(read_book, "a:0a", 4, EXPECTED["parses"])
        self.assert_problem(read_book, "a:0:", 4, EXPECTED["parses"])
        self.assert_problem(read_book, "::", 2, EXPECTED["parses"])

    def test_the_first_token_that_cannot_come(self):
        self.assert_problem(read_code, "a 0 : ;", 3, EXPECTED["code"])
        self.assert_problem(read_book, "a 0 : a", 3, EXPECTED["words"])
        self.assert_problem(read_book, "a : 0 a : :", 7, EXPECTED["parses"])
        self.assert_problem(next_tokens, "a ; 0", 3, EXPECTED["words"], "book")

    def test_texts_of_the_other_kind(self):
        for text in ("a ab ba: 0 2; 1 0", ":", "a:"):
            self.assert_problem(read_code, text, text.index(":") + 1, EXPECTED["code"])
            self.assert_problem(next_tokens, text, text.index(":") + 1, EXPECTED["code"], "code")

    def test_all_short_texts(self):
        """By the forms of the texts as a whole: CODE is words, BOOK words, a colon and numbers with semicolons."""
        for many in range(6):
            for row in itertools.product("a0:;", repeat=many):
                text = " ".join(row)
                letters = "".join(row)
                ahead, colon, behind = letters.partition(":")
                is_code = not letters.strip("a")
                is_book = colon == ":" and not ahead.strip("a") and not behind.strip("0;")
                self.assertEqual(self.follows(read_code, text), is_code, text)
                self.assertEqual(self.follows(read_book, text), is_book, text)

    def follows(self, function, text):
        try:
            function(text)
        except TextError as error:
            return not error.words.startswith("expected ")
        return True


class TokensFirst(ReadingCase):
    """Point 108 before points 110 and 112."""

    def test_a_token_with_a_problem_behind_one_that_cannot_come(self):
        for ahead in ("0 ", "; ", "a 0 ", "a ; : ", "a : b ", ": : ", "a a a a a a a ", "a a: 7 ", ": 0 ", "a: 0;;;;;;; "):
            for token, words in (("d", NO_TOKEN), ("abcabc", LONG_WORD), ("0000000", LONG_NUMBER), ("\t", NO_TOKEN), ("A", NO_TOKEN)):
                for behind in ("", " ", " a", " d", ": 0"):
                    text = ahead + token + behind
                    self.assert_problem(read_code, text, len(ahead) + 1, words)
                    self.assert_problem(read_book, text, len(ahead) + 1, words)
                    self.assert_problem(next_tokens, text, len(ahead) + 1, words, "code")
                    self.assert_problem(next_tokens, text, len(ahead) + 1, words, "book")


class Codes(ReadingCase):
    """Points 111 and 112, of codes."""

    def test_codes(self):
        for text, code in (
            ("", ()), ("  ", ()), ("a", ("a",)), ("a ab ba", ("a", "ab", "ba")), ("  ba   a ", ("ba", "a")), ("abcab c b aa bb cc", ("abcab", "c", "b", "aa", "bb", "cc")),
            ("c b a", ("c", "b", "a")), ("ccccc", ("ccccc",)),
        ):
            self.assert_same(read_code(text), code)

    def test_the_seventh_word(self):
        self.assert_problem(read_code, "a b c aa bb cc ab", 16, SIX_WORDS)
        self.assert_problem(read_code, "a b c aa bb cc  ab ac ba", 17, SIX_WORDS)
        self.assert_problem(read_code, "a b c aa bb cc a", 16, SIX_WORDS)
        self.assert_problem(read_book, "a b c aa bb cc ab:", 16, SIX_WORDS)
        self.assert_problem(read_book, "a b c aa bb cc a: 7", 16, SIX_WORDS)
        self.assert_same(read_code("a b c aa bb cc"), ("a", "b", "c", "aa", "bb", "cc"))

    def test_a_word_twice(self):
        self.assert_problem(read_code, "a a", 3, SAME_WORD)
        self.assert_problem(read_code, "a ab a ab", 6, SAME_WORD)
        self.assert_problem(read_code, "a b c aa bb bb ab", 13, SAME_WORD)
        self.assert_problem(read_code, "a b a c aa bb cc ab", 5, SAME_WORD)
        self.assert_problem(read_book, "ab ab: 7", 4, SAME_WORD)
        self.assert_problem(read_book, " a ab  ab ab: 0 7;;;;;;;", 8, SAME_WORD)


class Books(ReadingCase):
    """Points 111 and 112, of books."""

    def test_books(self):
        for text, book in (
            (":", ((), ((),))), ("a ab ba: 0 2; 1 0", (("a", "ab", "ba"), ((0, 2), (1, 0)))), ("a:", (("a",), ((),))), ("a:;", (("a",), ((), ()))),
            ("a: 0 0;; 0", (("a",), ((0, 0), (), (0,)))), ("a:0;0", (("a",), ((0,), (0,)))), (" ; ".join([": "] + [" "] * 5), ((), ((),) * 6)),
            ("a b:0 1 0 1;1", (("a", "b"), ((0, 1, 0, 1), (1,)))), ("a:;;;;; 0", (("a",), ((),) * 5 + ((0,),))), ("abcab : 0 0 0 0", (("abcab",), ((0,) * 4,))),
        ):
            self.assert_same(read_book(text), book)

    def test_zeros_ahead_of_numbers(self):
        self.assert_same(read_book("a ab: 00 01 000001 000000"), (("a", "ab"), ((0, 1, 1, 0),)))
        self.assert_problem(read_book, "a ab: 000002", 7, NO_WORD)
        self.assert_problem(read_book, "a ab: 0000001", 7, LONG_NUMBER)

    def test_the_semicolon_behind_the_sixth_parse(self):
        self.assert_same(read_book("a:;;;;;"), (("a",), ((),) * 6))
        self.assert_problem(read_book, "a:;;;;;;", 8, SIX_PARSES)
        self.assert_problem(read_book, "a: 0; 0; 0; 0; 0; 0; 0", 20, SIX_PARSES)
        self.assert_problem(read_book, "a:;;;;;; 7;", 8, SIX_PARSES)
        self.assert_problem(read_book, "a:;;;;; 7;", 9, NO_WORD)
        self.assert_problem(read_book, "a : ; ; ; ; ; 0 0 ; ;", 19, SIX_PARSES)

    def test_a_number_that_is_no_word(self):
        for code in (("a",), ("a", "ab"), ("a", "b", "c", "aa", "bb", "cc")):
            ahead = " ".join(code) + ":"
            for number in range(len(code)):
                self.assert_same(read_book(f"{ahead} {number}"), (code, ((number,),)))
            for number in (len(code), len(code) + 1, 99, 999999):
                self.assert_problem(read_book, f"{ahead} {number}", len(ahead) + 2, NO_WORD)
                self.assert_problem(read_book, f"{ahead} 0;0 {number} {number}", len(ahead) + 6, NO_WORD)
        self.assert_problem(read_book, ": 0", 3, NO_WORD)
        self.assert_problem(read_book, ":; 000000", 4, NO_WORD)

    def test_24_and_25_letters(self):
        for code, right in (
            (("a",), (0,) * 24), (("ab", "a"), (0,) * 12), (("ab", "a"), (0,) * 11 + (1, 1)), (("abcab", "abca"), (0, 0, 0, 0, 1)), (("abc",), (0,) * 8),
            (("aaaaa", "bbbb", "c"), (1,) * 6), (("aaaaa", "bbbb", "c"), (2,) * 4 + (0,) * 4),
        ):
            text = " ".join(code) + ":" + "".join(f" {number}" for number in right)
            self.assert_same(read_book(text), (code, (right,)))
            self.assert_same(read_book(text + ";" + text.partition(":")[2]), (code, (right, right)))
            for number in range(len(code)):
                self.assert_problem(read_book, f"{text} {number}", len(text) + 2, LONG_STRING)
                ahead = f"{text}; 0;{text.partition(':')[2]}"
                self.assert_problem(read_book, f"{ahead} {number} 0; 99", len(ahead) + 2, LONG_STRING)

    def test_at_the_first_number_with_which_there_are_more(self):
        self.assert_problem(read_book, "abcab: 0 0 0 0 0 0 0", 16, LONG_STRING)
        self.assert_problem(read_book, "abcab a: 0 0 0 0 0 1 1", 18, LONG_STRING)
        self.assert_problem(read_book, "abcab a: 0 0 0 0 1 1 1 1 1 1", 26, LONG_STRING)

    def test_of_several_problems_the_first_one(self):
        self.assert_problem(read_book, "abcab: 0 0 0 0 0 7", 16, LONG_STRING)
        self.assert_problem(read_book, "abcab: 0 0 0 0 7 0", 16, NO_WORD)
        self.assert_problem(read_book, "abcab: 0 0 0 0 7", 16, NO_WORD)
        self.assert_problem(read_book, "a a: 7", 3, SAME_WORD)
        self.assert_problem(read_book, "a b c aa bb cc ab: 7;;;;;;;", 16, SIX_WORDS)
        self.assert_problem(read_book, "a: 7;;;;;;;", 4, NO_WORD)
        self.assert_problem(read_book, "a:;;;;;; 7", 8, SIX_PARSES)

    def test_the_grammar_comes_first(self):
        for text, column, words in (
            ("a a", 4, EXPECTED["words"]), ("a a 0:", 5, EXPECTED["words"]), ("a b c aa bb cc ab", 18, EXPECTED["words"]), ("a: 7 a", 6, EXPECTED["parses"]),
            ("a:;;;;;;:", 9, EXPECTED["parses"]), ("abcab: 0 0 0 0 0 :", 18, EXPECTED["parses"]),
        ):
            self.assert_problem(read_book, text, column, words)
        self.assert_problem(read_code, "a a 0", 5, EXPECTED["code"])
        self.assert_problem(read_code, "a b c aa bb cc ab :", 19, EXPECTED["code"])

    def test_next_tokens_does_not_ask_for_what_the_words_mean(self):
        for text in ("a a", "a b c aa bb cc ab", "a " * 20):
            self.assert_same(next_tokens(text, "code"), IN_CODE)
            self.assert_same(next_tokens(text, "book"), IN_WORDS)
        for text in (": 0", "a: 7", "a a: 0", "a:;;;;;;;;", "abcab: 0 0 0 0 0 0"):
            self.assert_same(next_tokens(text, "book"), IN_PARSES)


class AllRules(ReadingCase):
    """Points 108 to 112 together, over texts of chosen tokens."""

    def assert_read(self, function, kind, text):
        expected = plainly_read(text, kind)
        if len(expected) == 2 and isinstance(expected[0], int):
            self.assert_problem(function, text, *expected)
            return expected[1]
        with self.subTest(text=text):
            self.assert_same(function(text), expected)
        return "read"

    def test_chosen_texts(self):
        numbers = random.Random(285)
        told = {}
        for _ in range(6000):
            words = numbers.sample(["a", "ab", "abcab", "c", "bb", "cab", "bca", "aaaaa", "abcabc"], numbers.randrange(0, 9))
            words += numbers.choices(words or ["a"], k=numbers.choice((0, 0, 0, 1)))
            rest = numbers.choices(
                ["0", "1", "2", "4", "007", ";", ":", "a", "1234567", "d"],
                [30, 20, 5, 1, 1, numbers.choice((10, 90)), 0.5, 0.5, 0.2, 0.2], k=numbers.randrange(0, 30),
            )
            tokens = words + numbers.choice(([":"], [":"], [":"], [], [";"])) + rest
            text = "".join(token + " " * numbers.choice((0, 1, 1, 1, 2)) for token in tokens)[:500]
            for function, kind in ((read_code, "code"), (read_book, "book")):
                part = text if kind == "book" else " ".join(tokens[:numbers.randrange(len(tokens) + 1)])
                words = self.assert_read(function, kind, part)
                told[words] = told.get(words, 0) + 1
        problems = [NO_TOKEN, LONG_WORD, LONG_NUMBER, SIX_WORDS, SAME_WORD, SIX_PARSES, NO_WORD, LONG_STRING] + list(EXPECTED.values())
        for words in problems + ["read"]:
            self.assertGreater(told.get(words, 0), 5, words)


class Back(ReadingCase):
    """Points 114 and 115."""

    def test_codes(self):
        for code in chosen_codes(200, 290) + list(CODES):
            self.assert_same(read_code(code_text(code)), code)

    def test_books(self):
        for book in chosen_books(300, 291):
            self.assertTrue(is_book(book))
            self.assert_same(read_book(book_text(book)), book)

    def test_blanks_put_in_between_tokens(self):
        numbers = random.Random(292)
        for book in chosen_books(100, 293):
            code = code_text(book[0])
            text = book_text(book)
            for sign in ":; ":
                text = text.replace(sign, " " * numbers.randrange(2) + sign + " " * numbers.randrange(3))
                code = code.replace(sign, sign + " " * numbers.randrange(3))
            for row in (text, " " + text, text + "  ", "   " + text + " "):
                if len(row) <= 500:
                    self.assert_same(read_book(row), book)
            for row in (code, " " + code, code + "  "):
                self.assert_same(read_code(row), book[0])

    def test_no_blank_where_none_is_needed(self):
        for book in chosen_books(200, 294):
            text = book_text(book).replace(": ", ":").replace("; ", ";")
            self.assert_same(read_book(text), book)

    def test_blanks_change_columns(self):
        self.assert_problem(read_book, "a:7", 3, NO_WORD)
        self.assert_problem(read_book, " a:7", 4, NO_WORD)
        self.assert_problem(read_book, "a  :   7  ", 8, NO_WORD)


class Example(ReadingCase):
    """Point 117, and the last call of the interface's example."""

    def test_the_code_of_point_18_with_two_parses(self):
        self.assert_same(read_book("a ab ba: 0 2; 1 0"), (("a", "ab", "ba"), ((0, 2), (1, 0))))
        self.assert_same(book_text((("a", "ab", "ba"), ((0, 2), (1, 0)))), "a ab ba: 0 2; 1 0")

    def test_the_call_that_raises(self):
        self.assert_problem(read_book, "a ab: 0 2", 9, NO_WORD)


if __name__ == "__main__":
    unittest.main()
