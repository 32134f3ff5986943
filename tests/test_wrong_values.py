"""Points 8 and 17: which error each function raises for wrong arguments, and in which order."""

import unittest

from syncedwords.errors import BadValue, NotPossible, TooLarge
from syncedwords.made import backwards, generators, have_same, needless, renamed
from syncedwords.parses import boundaries, common_boundaries, count_parses, index_of_parse
from syncedwords.parses import is_message, nth_parse, string_of
from tests.oracle import CodeCase
from tests.wrong import WRONG_CODES, WRONG_INDEXES, WRONG_ORDERS, WRONG_PARSES, WRONG_STRINGS, WrongCalls

CODE = ("a", "ab", "ba")
# Each function with right arguments, and the name of each argument with wrong values of it.
CALLS = (
    (string_of, (CODE, (0, 1)), (("code", WRONG_CODES), ("parse", WRONG_PARSES))),
    (is_message, (CODE, "aba"), (("code", WRONG_CODES), ("string", WRONG_STRINGS))),
    (count_parses, (CODE, "aba"), (("code", WRONG_CODES), ("string", WRONG_STRINGS))),
    (nth_parse, (CODE, "aba", 1), (("code", WRONG_CODES), ("string", WRONG_STRINGS), ("index", WRONG_INDEXES))),
    (index_of_parse, (CODE, (0, 1)), (("code", WRONG_CODES), ("parse", WRONG_PARSES))),
    (boundaries, (CODE, "aba"), (("code", WRONG_CODES), ("string", WRONG_STRINGS))),
    (common_boundaries, (CODE, "aba"), (("code", WRONG_CODES), ("string", WRONG_STRINGS))),
    (needless, (CODE,), (("code", WRONG_CODES),)),
    (generators, (CODE,), (("code", WRONG_CODES),)),
    (backwards, (CODE,), (("code", WRONG_CODES),)),
    (renamed, (CODE, "bca"), (("code", WRONG_CODES), ("order", WRONG_ORDERS))),
    (have_same, (CODE, ("a",)), (("code", WRONG_CODES), ("other", WRONG_CODES))),
)


class WrongArguments(WrongCalls, CodeCase):
    CALLS = CALLS

    def test_a_wrong_other_code_behind_each_right_one(self):
        for code in ((), ("a",), ("a", "b", "c", "aa", "bb", "cc")):
            for value in WRONG_CODES:
                self.assert_error(BadValue, "name", "other", have_same, code, value)
                self.assert_error(BadValue, "name", "code", have_same, value, code)

    def test_a_wrong_order_for_the_code_without_words(self):
        for value in WRONG_ORDERS:
            self.assert_error(BadValue, "name", "order", renamed, (), value)


class Indexes(CodeCase):
    def test_the_number_of_the_parses_is_no_index(self):
        for code, string, many in (
            (CODE, "aba", 2), (CODE, "a", 1), (CODE, "bb", 0), ((), "", 1), ((), "a", 0),
            (("a", "aa"), "aaaa", 5), (("a", "aa", "aaa", "aaaa", "aaaaa"), "a" * 24, 5976577),
        ):
            self.assertEqual(count_parses(code, string), many)
            self.assert_error(BadValue, "name", "index", nth_parse, code, string, many)
            self.assert_error(BadValue, "name", "index", nth_parse, code, string, -1)
            if many:
                nth_parse(code, string, many - 1)

    def test_true_and_false_are_no_indexes(self):
        for index in (True, False):
            self.assert_error(BadValue, "name", "index", nth_parse, CODE, "aba", index)
            self.assert_error(BadValue, "name", "index", nth_parse, CODE, "a", index)


class Numbers(CodeCase):
    def test_numbers_of_no_word(self):
        for function in (string_of, index_of_parse):
            for code in ((), ("a",), ("a", "b", "c", "aa", "bb", "cc")):
                for number in (len(code), len(code) + 1, -1, -len(code) - 1):
                    self.assert_error(BadValue, "name", "parse", function, code, (number,))
                if code:
                    function(code, (len(code) - 1,))

    def test_true_is_no_number(self):
        for function in (string_of, index_of_parse):
            self.assert_error(BadValue, "name", "parse", function, CODE, (True,))
            self.assert_error(BadValue, "name", "parse", function, CODE, (0, 1, 2, False))


class LongParses(CodeCase):
    CODE = ("aaaaa", "aaaa", "a", "b", "abc")

    def test_24_letters_and_25(self):
        for short, long in (
            ((0, 0, 0, 0, 1), (0, 0, 0, 0, 0)),
            ((2,) * 24, (2,) * 25),
            ((3,) * 24, (2,) + (3,) * 24),
            ((4,) * 8, (4,) * 8 + (3,)),
            ((1,) * 6, (2,) + (1,) * 6),
        ):
            self.assertEqual(len(string_of(self.CODE, short)), 24)
            index = index_of_parse(self.CODE, short)
            self.assertEqual(nth_parse(self.CODE, string_of(self.CODE, short), index), short)
            for function in (string_of, index_of_parse):
                self.assert_error(TooLarge, "what", "string", function, self.CODE, long)

    def test_much_longer(self):
        for function in (string_of, index_of_parse):
            for many in (6, 100, 2000):
                self.assert_error(TooLarge, "what", "string", function, self.CODE, (0,) * many)

    def test_a_wrong_argument_comes_first(self):
        for function in (string_of, index_of_parse):
            for end in (5, -1, True, None, "a"):
                self.assert_error(BadValue, "name", "parse", function, self.CODE, (0,) * 6 + (end,))
            self.assert_error(BadValue, "name", "parse", function, self.CODE, [0] * 6)
            self.assert_error(BadValue, "name", "code", function, list(self.CODE), (0,) * 6)

    def test_a_long_string_is_a_wrong_argument(self):
        for function in (is_message, count_parses, boundaries, common_boundaries):
            self.assert_error(BadValue, "name", "string", function, self.CODE, "a" * 25)
            self.assert_error(BadValue, "name", "string", function, self.CODE, "c" * 25)
            function(self.CODE, "a" * 24)


class NoMessage(CodeCase):
    def test_common_boundaries(self):
        for code, string in ((CODE, "bb"), (CODE, "c"), ((), "a"), (("ab",), "a" * 24), (("aa",), "a" * 23)):
            self.assert_error(NotPossible, "why", "message", common_boundaries, code, string)

    def test_a_wrong_argument_comes_first(self):
        self.assert_error(BadValue, "name", "string", common_boundaries, CODE, "bbd")
        self.assert_error(BadValue, "name", "code", common_boundaries, list(CODE), "bb")

    def test_the_others_raise_nothing(self):
        for function in (is_message, count_parses, boundaries):
            function(CODE, "bb")


if __name__ == "__main__":
    unittest.main()
