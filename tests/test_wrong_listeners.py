"""Points 8, 62, 74 and 84: wrong arguments of the chapters about listeners, synchronizing strings and lengths."""

import unittest

from syncedwords.errors import BadValue, NotPossible, TooLarge
from syncedwords.hearing import accepts_place, place_evidence
from syncedwords.lengths import extended, first_failing, kraft_sum, more_words, necklaces, word_necklaces
from syncedwords.listeners import first_known, is_observable, known_boundaries, known_words, next_letters
from syncedwords.listeners import observable_rest, states_at
from syncedwords.prefixes import accepts_decoder, count_strings, decoder_evidence, decoder_states, is_synchronizing
from syncedwords.prefixes import left_behind, resolving, shortest
from tests.families import FIVE
from tests.oracle import LONG, CodeCase
from tests.wrong import WRONG_CODES, WRONG_STRINGS, WrongCalls

LATER = ("a", "ab")
PREFIX = ("a", "ba", "bb")
NO_PREFIX_CODES = ((), ("a", "ab"), ("ab", "a"), ("b", "a", "c", "abc"), ("abcab", "abca"), ("ab", "ba", "aba"))
TEN_STATES = ("aaaaa", "baaaa", "ca")
WRONG_PLACES = (None, True, False, -1, 4, 5, 24, 25, 2 ** 70, "1", "", 1.0, (1,), [1], b"a")
WRONG_STATES = (None, True, False, 0, 1, "a", "c", "ba", "bb", "bbb", "B", "b ", ("b",), ["b"], b"b", (), [], {}, 0.5)
WRONG_MANY = (None, True, False, -1, 21, 22, 100, 2 ** 70, "1", "", 1.0, (1,), [1], b"a")
WRONG_SIZES = (None, True, False, 0, -1, 4, 5, 2 ** 70, "2", "", 2.0, (2,), [2], b"a", "ab")
WRONG_COUNTS = (
    None, True, False, 0, 1, "", "11", [], [1, 1], {1: 1}, {1}, b"", b"\1", range(2), (0,) * 9, (1,) * 9, (0,) * 100, (1001,),
    (0, 1001), (-1,), (1, -1), (2 ** 70,), (True,), (1, False), (None,), ("1",), (1.0,), ((1,),), ([1],), (1, None),
)
WRONG_LENGTHS = (None, True, False, 0, -1, 13, 14, 2 ** 70, "1", "", 1.0, 12.0, (1,), [1], b"a")
WRONG_MOST = (None, True, False, 0, 1, -1, 13, 14, 2 ** 70, "2", "", 2.0, (2,), [2], b"a")

CODE_AND_STRING = (("code", WRONG_CODES), ("string", WRONG_STRINGS))
CODE_STRING_PLACE = CODE_AND_STRING + (("place", WRONG_PLACES),)
SIZE_AND_COUNTS = (("size", WRONG_SIZES), ("counts", WRONG_COUNTS))

CALLS = (
    (is_observable, (LATER, "aab"), CODE_AND_STRING),
    (states_at, (LATER, "aab", 3), CODE_STRING_PLACE),
    (known_boundaries, (LATER, "aab"), CODE_AND_STRING),
    (known_words, (LATER, "aab"), CODE_AND_STRING),
    (first_known, (LATER, "aab"), CODE_AND_STRING),
    (observable_rest, (LATER, "aab"), CODE_AND_STRING),
    (next_letters, (LATER, "aab"), CODE_AND_STRING),
    (place_evidence, (LATER, "aab", 3), CODE_STRING_PLACE),
    (accepts_place, (LATER, "aab", 3, None), CODE_STRING_PLACE),
    (decoder_states, (PREFIX,), (("code", WRONG_CODES),)),
    (left_behind, (PREFIX, "aab"), CODE_AND_STRING),
    (is_synchronizing, (PREFIX, "aab"), CODE_AND_STRING),
    (shortest, (PREFIX,), (("code", WRONG_CODES),)),
    (resolving, (PREFIX, "", "b"), (("code", WRONG_CODES), ("first", WRONG_STATES), ("second", WRONG_STATES))),
    (count_strings, (PREFIX, 20), (("code", WRONG_CODES), ("many", WRONG_MANY))),
    (decoder_evidence, (PREFIX,), (("code", WRONG_CODES),)),
    (accepts_decoder, (PREFIX, None), (("code", WRONG_CODES),)),
    (necklaces, (2, 12), (("size", WRONG_SIZES), ("length", WRONG_LENGTHS))),
    (word_necklaces, ((1, 1), 12), (("counts", WRONG_COUNTS), ("length", WRONG_LENGTHS))),
    (first_failing, (2, (1, 1)), SIZE_AND_COUNTS),
    (more_words, (2, (1, 1), 12), SIZE_AND_COUNTS + (("length", WRONG_LENGTHS),)),
    (extended, (2, (1, 1), 12), SIZE_AND_COUNTS + (("most", WRONG_MOST),)),
    (kraft_sum, (2, (1, 1)), SIZE_AND_COUNTS),
)


class WrongArguments(WrongCalls, CodeCase):
    CALLS = CALLS

    def test_a_value_that_is_judged_does_not_matter(self):
        for value in (None, True, [], (), ("known", (), ()), ("open", ()), ("string", ""), object()):
            for code in WRONG_CODES:
                self.assert_error(BadValue, "name", "code", accepts_place, code, "a", 0, value)
                self.assert_error(BadValue, "name", "code", accepts_decoder, code, value)
            for string in WRONG_STRINGS:
                self.assert_error(BadValue, "name", "string", accepts_place, LATER, string, 0, value)
            for place in WRONG_PLACES:
                self.assert_error(BadValue, "name", "place", accepts_place, LATER, "aab", place, value)
            self.assert_error(NotPossible, "why", "observable", accepts_place, LATER, "bb", 0, value)
            self.assert_error(NotPossible, "why", "prefix", accepts_decoder, LATER, value)


class Strings(CodeCase):
    """Points 62 and 74: 24 letters and 25."""

    FUNCTIONS = (is_observable, known_boundaries, known_words, first_known, observable_rest, next_letters)

    def test_24_and_25_letters(self):
        for function in self.FUNCTIONS:
            for code in ((), ("a",), ("abc",), LATER, FIVE):
                for string in ("a" * 24, LONG, ""):
                    function(code, string)
                for string in ("a" * 25, LONG + "a", "d"):
                    self.assert_error(BadValue, "name", "string", function, code, string)
        for function in (left_behind, is_synchronizing):
            for code in (("a",), ("abc",), PREFIX):
                for string in ("a" * 24, LONG, ""):
                    function(code, string)
                for string in ("a" * 25, LONG + "a", "d"):
                    self.assert_error(BadValue, "name", "string", function, code, string)

    def test_with_a_place(self):
        for function, more in ((states_at, ()), (place_evidence, ()), (accepts_place, (None,))):
            function(("abc",), LONG, 24, *more)
            self.assert_error(BadValue, "name", "string", function, ("abc",), LONG + "a", 24, *more)
            self.assert_error(BadValue, "name", "string", function, ("abc",), LONG + "a", 26, *more)


class Places(CodeCase):
    """Point 62."""

    CALLS = ((states_at, ()), (place_evidence, ()), (accepts_place, (None,)))

    def test_the_length_of_the_string_and_one_more(self):
        for function, more in self.CALLS:
            for string in ("", "a", "aab", "ab" * 12):
                for place in (0, len(string)):
                    function(LATER, string, place, *more)
                for place in (-1, len(string) + 1, len(string) + 2, True, False):
                    self.assert_error(BadValue, "name", "place", function, LATER, string, place, *more)

    def test_not_observable(self):
        for function, more in self.CALLS:
            for code, string in ((LATER, "bb"), (LATER, "c"), ((), "a"), (("ab",), "aa"), (("abc",), LONG[:23] + "a")):
                for place in (0, 1, len(string)):
                    self.assert_error(NotPossible, "why", "observable", function, code, string, place, *more)

    def test_a_wrong_argument_comes_first(self):
        for function, more in self.CALLS:
            for place in WRONG_PLACES:
                self.assert_error(BadValue, "name", "place", function, LATER, "bb", place, *more)
            self.assert_error(BadValue, "name", "place", function, (), "abc", 4, *more)
            self.assert_error(BadValue, "name", "string", function, LATER, "bbd", 0, *more)
            self.assert_error(BadValue, "name", "code", function, list(LATER), "bb", 0, *more)

    def test_the_others_raise_nothing(self):
        for function in Strings.FUNCTIONS:
            function(LATER, "bb")
            function((), "a")


class NoPrefixCodes(CodeCase):
    """Point 74: NotPossible stands behind "code", and ahead of all other arguments."""

    CALLS = (
        (decoder_states, ((),)),
        (left_behind, (("a",), ("d",), (None,), ("a" * 25,))),
        (is_synchronizing, (("a",), ("d",), (None,), ("a" * 25,))),
        (shortest, ((),)),
        (resolving, (("", ""), ("x", ""), ("", "x"), (None, None), ("", "a"))),
        (count_strings, ((0,), (20,), (21,), (-1,), (True,), (None,))),
        (decoder_evidence, ((),)),
        (accepts_decoder, ((None,), (("string", ""),), (("stuck", ()),))),
    )

    def test_each_function(self):
        for function, rows in self.CALLS:
            for code in NO_PREFIX_CODES:
                for row in rows:
                    self.assert_error(NotPossible, "why", "prefix", function, code, *row)

    def test_a_wrong_code_comes_first(self):
        for function, rows in self.CALLS:
            for code in WRONG_CODES + (list(LATER), ["a", "ab"]):
                for row in rows:
                    self.assert_error(BadValue, "name", "code", function, code, *row)

    def test_no_prefix_code_with_many_states(self):
        code = ("aaaaa", "baaaa", "ccccc", "cccc")
        for function, rows in self.CALLS:
            for row in rows:
                self.assert_error(NotPossible, "why", "prefix", function, code, *row)


class DecoderStates(CodeCase):
    """Point 74: what is no decoder state."""

    def test_the_states_alone(self):
        for code in (PREFIX, ("a",), ("aab", "abc"), ("abcab", "bcabc")):
            states = decoder_states(code)
            for state in states:
                resolving(code, state, "")
                resolving(code, "", state)
            for string in ("c", "bb", "aaa", "abcab", "bc" + "a" * 20, "d") + WRONG_STATES[5:9]:
                if string not in states:
                    self.assert_error(BadValue, "name", "first", resolving, code, string, "")
                    self.assert_error(BadValue, "name", "first", resolving, code, string, string)
                    self.assert_error(BadValue, "name", "second", resolving, code, "", string)


class Many(CodeCase):
    """Point 74: 0, 20, 21 and True, and 9 and 10 decoder states."""

    def test_numbers_of_letters(self):
        for code in (("a",), PREFIX, ("aaaaa", "baaaa")):
            for many in (0, 1, 20):
                count_strings(code, many)
            for many in (-1, 21, True, False):
                self.assert_error(BadValue, "name", "many", count_strings, code, many)

    def test_a_wrong_number_comes_before_too_many_states(self):
        self.assertEqual(len(decoder_states(TEN_STATES)), 10)
        for many in WRONG_MANY:
            self.assert_error(BadValue, "name", "many", count_strings, TEN_STATES, many)
        for many in (0, 20):
            self.assert_error(TooLarge, "what", "states", count_strings, TEN_STATES, many)
        self.assert_error(TooLarge, "what", "states", shortest, TEN_STATES)

    def test_none_for_9_states(self):
        for code in (("aaaaa", "baaaa"), ("abcab", "baaaa", "cb")):
            if len(decoder_states(code)) == 9:
                shortest(code)
                count_strings(code, 0)


class Lengths(CodeCase):
    """Point 84."""

    def test_sizes(self):
        for size in (1, 3):
            necklaces(size, 12)
            first_failing(size, ())
            more_words(size, (), 1)
            extended(size, (), 0)
            kraft_sum(size, ())
        for size in (0, 4, True, -1):
            self.assert_error(BadValue, "name", "size", necklaces, size, 12)
            self.assert_error(BadValue, "name", "size", first_failing, size, ())
            self.assert_error(BadValue, "name", "size", more_words, size, (), 1)
            self.assert_error(BadValue, "name", "size", extended, size, (), 0)
            self.assert_error(BadValue, "name", "size", kraft_sum, size, ())

    def test_counts(self):
        for counts in ((), (0,) * 8, (1000,) * 8, (0, 1000), (1000,)):
            word_necklaces(counts, 12)
            first_failing(3, counts)
            more_words(3, counts, 12)
            extended(3, counts, 12)
            kraft_sum(3, counts)
        for counts in ((0,) * 9, (1000,) * 9, (1001,), (0,) * 7 + (1001,), (-1,), (True,), (0, False), [], [0], (1001, 0)):
            self.assert_error(BadValue, "name", "counts", word_necklaces, counts, 12)
            self.assert_error(BadValue, "name", "counts", first_failing, 3, counts)
            self.assert_error(BadValue, "name", "counts", more_words, 3, counts, 12)
            self.assert_error(BadValue, "name", "counts", extended, 3, counts, 12)
            self.assert_error(BadValue, "name", "counts", kraft_sum, 3, counts)

    def test_lengths(self):
        for length in (1, 12):
            necklaces(3, length)
            word_necklaces((0,) * 8, length)
            more_words(3, (0,) * 8, length)
        for length in (0, 13, True, -1):
            self.assert_error(BadValue, "name", "length", necklaces, 3, length)
            self.assert_error(BadValue, "name", "length", word_necklaces, (0,) * 8, length)
            self.assert_error(BadValue, "name", "length", more_words, 3, (0,) * 8, length)

    def test_most(self):
        for counts in ((), (1,), (0,) * 8, (1000,) * 8, (2, 1)):
            for most in (len(counts), 12):
                extended(2, counts, most)
            for most in (len(counts) - 1, 13, -1):
                self.assert_error(BadValue, "name", "most", extended, 2, counts, most)
        for most in (True, False):
            self.assert_error(BadValue, "name", "most", extended, 2, (), most)
            self.assert_error(BadValue, "name", "most", extended, 2, (1,), most)

    def test_a_wrong_argument_comes_before_a_length_that_fails(self):
        self.assert_error(BadValue, "name", "length", more_words, 2, (2, 1), 13)
        self.assert_error(BadValue, "name", "most", extended, 2, (2, 1), 1)
        self.assert_same(more_words(2, (2, 1), 12), None)
        self.assert_same(extended(2, (2, 1), 2), None)


if __name__ == "__main__":
    unittest.main()
