"""Points 8, 95 and 105: wrong arguments of the chapters about made codes and about errors."""

import unittest

from syncedwords.correction import accepts_errors, correction, errors_evidence, first_error, least_errors
from syncedwords.distance import distance, led
from syncedwords.errors import BadValue, NotPossible
from syncedwords.lengths import first_failing
from syncedwords.making import accepts_journal, became, code_of, eliminated, made_code, told_journal
from tests.oracle import LONG, CodeCase, strings_up_to
from tests.wrong import WRONG_CODES, WRONG_STRINGS, WrongCalls

PAIR = ("ab", "ba")
KEEP, DROP = ("keep",), ("drop",)
TWELVE = tuple(strings_up_to(3, "ab")[1:13])
WRONG_SIZES = (None, True, False, 0, -1, 4, 5, 2 ** 70, "2", "", 2.0, (2,), [2], b"a", "ab")
WRONG_COUNTS = (
    None, True, False, 0, 1, "", "11", [], [1, 1], {1: 1}, {1}, b"", b"\1", range(2), (0,) * 6, (1,) * 6, (0,) * 100, (7,), (0, 7), (6, 1), (1, 6), (3, 4),
    (2, 2, 2, 1), (1, 1, 1, 1, 3), (-1,), (1, -1), (7, -1), (6, 1, -1), (2 ** 70,), (True,), (1, False), (None,), ("1",), (1.0,), ((1,),), ([1],), (1, None),
)
WRONG_WORDS = (
    None, True, False, 0, 1, "", "a", "ab", [], ["a", "ab"], {"a", "ab"}, {"a": 1}, b"a", ("",), ("a", ""), ("a", "a"), ("a", "ab", "a"), ("a", "abcabcabc"),
    ("a", "d"), ("a", "A"), ("a", "b "), ("a", "b\n"), ("a", None), ("a", True), ("a", 1), ("a", ["b"]), (("a",),), ("a", b"b"), TWELVE + ("bbb",), TWELVE * 2,
    ("a",) * 13,
)
WRONG_ONES = (None, True, False, 0, 1, "", "b", "ba", "aab", "A", "a ", " a", "a\n", ("a",), ["a"], {"a"}, b"a", "d", "abab", (), 0.5)
WRONG_MOST = (None, True, False, 0, -1, 9, 10, 2 ** 70, "1", "", 1.0, 8.0, (1,), [1], b"a")
WRONG_RINGS = (
    None, True, False, 0, 1, "", (), ("a",), ["a"], b"a", "d", "c", "ca", "abc", "bca", "aac", "A", "ab ", " ab", "ab\n", "aa", "bb", "aaa", "bbb", "aaab", "abab",
    "abaab", "a" * 12, "a" * 24, "ababb" * 2, "B",
)
WRONG_STEPS = (
    None, True, False, 0, 1, "", "keep", ["keep"], [], [KEEP, KEEP, KEEP], {KEEP}, {0: KEEP}, b"", KEEP, DROP, ("put", "a"), (None,), (True,), ("",), ((),),
    (["keep"],), (("keep", "a"),), (("drop", None),), (("change",),), (("put",),), (("change", ""),), (("put", "ab"),), (("put", "d"),), (("change", "A"),),
    (("change", None),), (("put", 1),), (("put", True),), (("change", b"a"),), (("change", ["a"]),), (("put", "a", "a"),), (("Keep",),), (("leave",),),
    (("keep ",),), ((b"keep",),), ((None,),), ((0,),), ((("keep",),),), (KEEP, KEEP, None), (KEEP, KEEP, ["drop"]), (KEEP, KEEP, KEEP, ()),
    (("put", "a"),) * 101, (KEEP,) * 101, (KEEP,) * 1000, (("put", "a"),) * 98 + (KEEP,) * 3, (("put", "a\n"),), ((("put", "a")),) * 3 + ((),), range(3),
)
WRONG_NUMBERS = (None, True, False, -1, 25, 26, 100, 2 ** 70, "0", "", 0.0, 1.0, (0,), [0], b"a")

SIZE_AND_COUNTS = (("size", WRONG_SIZES), ("counts", WRONG_COUNTS))
CODE_AND_STRING = (("code", WRONG_CODES), ("string", WRONG_STRINGS))

CALLS = (
    (eliminated, (("a", "ab"), "ab", 8), (("words", WRONG_WORDS), ("word", WRONG_ONES), ("most", WRONG_MOST))),
    (made_code, (2, (1, 1, 1)), SIZE_AND_COUNTS),
    (told_journal, (2, (1, 1, 1)), SIZE_AND_COUNTS),
    (accepts_journal, (2, (1, 1, 1), None), SIZE_AND_COUNTS),
    (code_of, (2, (1, 1, 1), None), SIZE_AND_COUNTS),
    (became, (2, (1, 1, 1), "aab"), SIZE_AND_COUNTS + (("ring", WRONG_RINGS),)),
    (distance, ("aab", "ab"), (("first", WRONG_STRINGS), ("second", WRONG_STRINGS))),
    (led, ("aab", (KEEP, DROP, KEEP)), (("string", WRONG_STRINGS), ("steps", WRONG_STEPS))),
    (least_errors, (PAIR, "aab"), CODE_AND_STRING),
    (correction, (PAIR, "aab"), CODE_AND_STRING),
    (first_error, (PAIR, "aab"), CODE_AND_STRING),
    (errors_evidence, (PAIR, "aab"), CODE_AND_STRING),
    (accepts_errors, (PAIR, "aab", 1, None), CODE_AND_STRING + (("number", WRONG_NUMBERS),)),
)


class WrongArguments(WrongCalls, CodeCase):
    CALLS = CALLS

    def test_a_value_that_is_judged_does_not_matter(self):
        journal = told_journal(2, (1, 1, 1))
        for value in (None, True, [], (), journal, list(journal), object()):
            for function in (accepts_journal, code_of):
                for size in WRONG_SIZES:
                    self.assert_error(BadValue, "name", "size", function, size, (1, 1, 1), value)
                for counts in WRONG_COUNTS:
                    self.assert_error(BadValue, "name", "counts", function, 2, counts, value)
        for value in (None, True, [], (), ((), (), ()), errors_evidence(PAIR, "aab"), object()):
            for code in WRONG_CODES:
                self.assert_error(BadValue, "name", "code", accepts_errors, code, "aab", 1, value)
            for string in WRONG_STRINGS:
                self.assert_error(BadValue, "name", "string", accepts_errors, PAIR, string, 1, value)
            for number in WRONG_NUMBERS:
                self.assert_error(BadValue, "name", "number", accepts_errors, PAIR, "aab", number, value)


class Sizes(CodeCase):
    """Point 95: 0, 1, 3, 4 and True letters."""

    CALLS = ((made_code, ()), (told_journal, ()), (accepts_journal, (None,)), (code_of, (None,)), (became, ("a",)))

    def test_each_function(self):
        for function, more in self.CALLS:
            for size in (1, 2, 3):
                function(size, (1,), *more)
            for size in (0, 4, -1, True, False):
                self.assert_error(BadValue, "name", "size", function, size, (1,), *more)
                self.assert_error(BadValue, "name", "size", function, size, (7,), *more)


class Counts(CodeCase):
    """Point 95: 5 and 6 lengths, counts of 6 and 7, 6 and 7 words together."""

    def test_each_function(self):
        for function, more in Sizes.CALLS[:4]:
            for counts in ((), (0,), (6,), (0,) * 5, (0, 0, 0, 0, 6), (6, 0), (2, 2, 2), (1, 1, 1, 1, 2), (0, 6)):
                for size in (1, 2, 3):
                    function(size, counts, *more)
            for counts in (
                (0,) * 6, (7,), (-1,), (True,), (False,), (0, True), [1], [], (3, 4), (0, 0, 0, 0, 7), (2, 2, 2, 1), (6, 1), (1, 1, 1, 1, 3), (7, -1), (1000,),
                (0, 0, 0, 0, 0, 1),
            ):
                for size in (1, 2, 3):
                    self.assert_error(BadValue, "name", "counts", function, size, counts, *more)

    def test_became(self):
        for counts in ((0,), (2,), (0,) * 5, (0, 0, 0, 0, 6), (1, 1, 1, 1, 1)):
            became(2, counts, "b")
        for counts in ((0,) * 6, (7,), (-1,), (True,), [1], (3, 4)):
            for ring in ("b", "", "c", "aa", None):
                self.assert_error(BadValue, "name", "counts", became, 2, counts, ring)


class Words(CodeCase):
    """Point 95: words of 8 and 9 letters, 12 and 13 of them, a word that is not among them."""

    def test_letters(self):
        for word in ("a", "abcabcab", "cccccccc"):
            eliminated((word,), word, 1)
            eliminated((word, "b"), word, 8)
        for word in ("", "abcabcabc", "d", "aaaaaaaaa"):
            self.assert_error(BadValue, "name", "words", eliminated, (word,), word, 1)
            self.assert_error(BadValue, "name", "words", eliminated, ("b", word), word, 1)

    def test_how_many(self):
        self.assertEqual(len(TWELVE), 12)
        eliminated(TWELVE, "a", 8)
        eliminated(TWELVE[:11], "a", 8)
        self.assert_error(BadValue, "name", "words", eliminated, TWELVE + ("bbb",), "a", 8)
        self.assert_error(BadValue, "name", "words", eliminated, TWELVE + ("a",), "a", 8)

    def test_a_word_twice_or_a_list(self):
        self.assert_error(BadValue, "name", "words", eliminated, ("a", "b", "a"), "a", 8)
        self.assert_error(BadValue, "name", "words", eliminated, ["a", "b"], "a", 8)
        self.assert_error(BadValue, "name", "words", eliminated, "ab", "a", 8)

    def test_a_word_that_is_not_among_them(self):
        for word in ("c", "ba", "", "abc", ("a",), None, True, 0):
            self.assert_error(BadValue, "name", "word", eliminated, ("a", "ab"), word, 8)
            self.assert_error(BadValue, "name", "word", eliminated, ("a", "ab"), word, 9)
            self.assert_error(BadValue, "name", "word", eliminated, (), word, 8)

    def test_most_letters(self):
        for most in (1, 8):
            eliminated(("a", "ab"), "a", most)
        for most in (0, 9, -1, True):
            self.assert_error(BadValue, "name", "most", eliminated, ("a", "ab"), "a", most)


class Rings(CodeCase):
    """Point 95: the rings of became, and then NotPossible."""

    def test_how_many_letters(self):
        for size, most in ((2, 1), (2, 2), (2, 3), (2, 4), (2, 5), (3, 3), (3, 5)):
            counts = (0,) * most
            for ring in ("a", ("a" * most)[:-1] + "b"):
                became(size, counts, ring)
            for ring in ("", "a" * most + "b", "b" + "a" * most, "a" * 12 + "b", "a" * 23 + "b"):
                self.assert_error(BadValue, "name", "ring", became, size, counts, ring)

    def test_without_counts_no_ring_is_right(self):
        for size in (1, 2, 3):
            for ring in ("", "a", "b", "ab", None):
                self.assert_error(BadValue, "name", "ring", became, size, (), ring)

    def test_letters(self):
        for size, right in ((1, "a"), (2, "ab"), (3, "abc")):
            for letter in "abcdA 0":
                if letter in right:
                    became(size, (0,) * 3, letter)
                else:
                    self.assert_error(BadValue, "name", "ring", became, size, (0,) * 3, letter)
                    self.assert_error(BadValue, "name", "ring", became, size, (0,) * 3, "a" + letter)
                    self.assert_error(BadValue, "name", "ring", became, size, (0,) * 3, letter + "a")

    def test_primitive_ones_alone(self):
        for ring in ("aa", "bb", "aaa", "abab", "baba", "aaaa", "bbbbb", "ccc"):
            self.assert_error(BadValue, "name", "ring", became, 3, (0,) * 5, ring)
        for ring in ("ab", "aab", "abaab", "ababb", "abba", "cabc"):
            became(3, (0,) * 5, ring)

    def test_some_length_fails(self):
        for size, counts in ((2, (2, 1)), (2, (0, 2)), (2, (3,)), (1, (0, 1)), (1, (2,)), (3, (4, 0, 0)), (2, (1, 1, 2)), (2, (6, 0, 0, 0, 0)), (2, (0, 0, 0, 0, 6))):
            for ring in ("a", "ab"[:len(counts)], "aab"[:len(counts)], "b"):
                if ring in ("aa",) or set(ring) - set("abc"[:size]) or len(ring) > len(counts):
                    self.assert_error(BadValue, "name", "ring", became, size, counts, ring)
                elif first_failing(size, counts) is None:
                    became(size, counts, ring)
                else:
                    self.assert_error(NotPossible, "why", "fails", became, size, counts, ring)

    def test_a_wrong_ring_comes_before_a_length_that_fails(self):
        for ring in WRONG_RINGS:
            if ring != "aaab":
                self.assert_error(BadValue, "name", "ring", became, 2, (2, 1, 0), ring)

    def test_none_of_the_others(self):
        for size, counts in ((2, (2, 1)), (1, (2,)), (3, (3, 1))):
            self.assert_same(made_code(size, counts), None)
            self.assert_same(told_journal(size, counts), None)
            self.assert_same(accepts_journal(size, counts, ()), False)
            self.assert_same(code_of(size, counts, ()), None)


class Strings(CodeCase):
    """Point 105: 24 letters and 25."""

    def test_of_distance(self):
        for string in ("a" * 24, LONG, ""):
            distance(string, LONG)
            distance(LONG, string)
        for string in ("a" * 25, LONG + "a", "d"):
            self.assert_error(BadValue, "name", "first", distance, string, "a")
            self.assert_error(BadValue, "name", "first", distance, string, string)
            self.assert_error(BadValue, "name", "second", distance, "a", string)

    def test_of_led(self):
        led(LONG, (KEEP,) * 24)
        self.assert_error(BadValue, "name", "string", led, LONG + "a", (KEEP,) * 25)
        self.assert_error(BadValue, "name", "string", led, LONG + "a", [KEEP] * 25)

    def test_with_a_code(self):
        for function, more in ((least_errors, ()), (correction, ()), (first_error, ()), (errors_evidence, ()), (accepts_errors, (24, None))):
            for code in ((), ("a",), PAIR, ("abcab", "a", "b", "c", "ab", "bc")):
                for string in ("a" * 24, LONG, ""):
                    function(code, string, *more)
                for string in ("a" * 25, LONG + "a", "d"):
                    self.assert_error(BadValue, "name", "string", function, code, string, *more)


class Steps(CodeCase):
    """Point 105: 100 steps and 101, steps of wrong forms, lists."""

    def test_100_and_101(self):
        for step in (KEEP, DROP, ("put", "a"), ("change", "c")):
            led("a", (step,) * 100)
            self.assert_error(BadValue, "name", "steps", led, "a", (step,) * 101)
            self.assert_error(BadValue, "name", "steps", led, "a", [step])
            self.assert_error(BadValue, "name", "steps", led, "a", (list(step),))
            self.assert_error(BadValue, "name", "steps", led, "a", step)

    def test_a_wrong_step_behind_what_leads_to_nothing(self):
        self.assert_error(BadValue, "name", "steps", led, "", (KEEP, KEEP, ("change", "d")))
        self.assert_error(BadValue, "name", "steps", led, "a", (KEEP, KEEP, ("put",)))


class Numbers(CodeCase):
    """Point 105: -1, 0, 24, 25 and True."""

    def test_each_of_them(self):
        for number in (0, 1, 24):
            for string in ("", "a", LONG):
                accepts_errors(PAIR, string, number, None)
        for number in (-1, 25, True, False):
            for value in (None, errors_evidence(PAIR, "aab")):
                self.assert_error(BadValue, "name", "number", accepts_errors, PAIR, "aab", number, value)


if __name__ == "__main__":
    unittest.main()
