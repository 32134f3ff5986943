"""Points 19 to 27: uniquely decodable codes, rests, the first ambiguous string, and the evidence for the judge."""

import itertools
import unittest
from fractions import Fraction

from syncedwords.made import backwards, renamed
from syncedwords.parses import count_parses
from syncedwords.unique import accepts_unique, first_ambiguous, is_unique, rests, unique_evidence
from tests.families import FIVE, PERIODIC, chosen_codes, small_codes
from tests.oracle import CODES, CodeCase, all_parses, strings_up_to

PREFIX_CODES = (
    ("a",), ("ab",), ("abcab",), ("a", "b"), ("a", "b", "c"), ("a", "ba", "bb"), ("aa", "ab", "ba", "bb"),
    ("a", "ba", "bba", "bbba"), ("ccccc", "ccccb", "cccb", "ccb", "cb", "b"), FIVE, PERIODIC,
)
WORDS_OF_FIVE = tuple(word for word in strings_up_to(5) if len(word) == 5)


def come_by_one_step(code, found):
    """What the three steps of point 20 give of the strings that were found."""
    come = set()
    for word, other in itertools.permutations(code, 2):
        if word.startswith(other):
            come.add(word[len(other):])
    for rest in found:
        for word in code:
            if rest.startswith(word):
                come.add(rest[len(word):])
            if rest != "" and word.startswith(rest):
                come.add(word[len(rest):])
    return come


def listed_rests(code):
    found = set()
    while not come_by_one_step(code, found) <= found:
        found |= come_by_one_step(code, found)
    return tuple(sorted(found))


def families():
    return small_codes() + list(CODES) + list(PREFIX_CODES) + chosen_codes(300, 1, "ab", 4) + chosen_codes(300, 2)


def string_of_words(code, parse):
    return "".join(code[number] for number in parse)


def first_by_readings(code, most):
    """The first ambiguous string of at most so many letters, of all ways to read on where one reading is ahead."""
    found = set()
    waiting = {
        (word, word[len(other):])
        for word, other in itertools.permutations(code, 2) if word.startswith(other)
    }
    while waiting:
        string, rest = waiting.pop()
        for word in code:
            if word == rest:
                found.add(string)
            elif rest.startswith(word):
                waiting.add((string, rest[len(word):]))
            elif word.startswith(rest) and len(string) + len(word) - len(rest) <= most:
                waiting.add((string + word[len(rest):], word[len(rest):]))
    return min(found, key=lambda string: (len(string), string), default=None)


class Rests(CodeCase):
    """Points 20 and 25."""

    CASES = (
        ((), ()),
        (("a",), ()),
        (("abcab",), ()),
        (("a", "ab", "ba"), ("", "a", "b")),
        (("a", "ab", "bb"), ("b",)),
        (("a", "abb", "bba"), ("", "a", "bb")),
        (("a", "ab"), ("b",)),
        (("a", "aa"), ("", "a")),
        (("aa", "a"), ("", "a")),
        (("aa", "aaa"), ("", "a", "aa")),
        (("ab", "abc", "ca"), ("a", "b", "bc", "c")),
        (("b", "abb", "bbaa"), ("aa", "baa")),
    )

    def test_cases(self):
        for code, expected in self.CASES:
            self.assert_same(rests(code), expected)

    def test_as_by_listing(self):
        for code in families() + [case[0] for case in self.CASES]:
            self.assert_same(rests(code), listed_rests(code))

    def test_ascending_ends_of_words_and_at_most_25(self):
        for code in families():
            found = rests(code)
            self.assertEqual(list(found), sorted(set(found)))
            self.assertLessEqual(len(found), 25)
            for rest in found:
                self.assertLessEqual(len(rest), 4)
                self.assertTrue(any(word.endswith(rest) for word in code))

    def test_the_sequence_of_the_words_does_not_matter(self):
        for code in (("a", "ab", "ba"), ("a", "ab", "bb"), ("aabba", "ab", "ba", "aab", "bba", "b")):
            for words in itertools.permutations(code):
                self.assert_same(rests(words), rests(code))
                self.assert_same(is_unique(words), is_unique(code))
                self.assert_same(first_ambiguous(words), first_ambiguous(code))

    def test_many_rests(self):
        code = ("aaaaa", "a", "baaaa", "cabaa", "bcaba", "aabca")
        self.assert_same(rests(code), listed_rests(code))
        self.assertGreater(len(rests(code)), 7)


class Unique(CodeCase):
    """Point 19."""

    def test_prefix_codes_are(self):
        for code in PREFIX_CODES + ((),):
            self.assert_same(is_unique(code), True)
            self.assert_same(rests(code), ())
            self.assert_same(first_ambiguous(code), None)
            self.assert_same(unique_evidence(code), ("unique", ()))

    def test_codes_of_one_word_are(self):
        for word in strings_up_to(5, "ab")[1:]:
            self.assert_same(is_unique((word,)), True)
            self.assert_same(unique_evidence((word,)), ("unique", ()))

    def test_cases(self):
        for code, expected in (
            (("a", "ab", "bb"), True),
            (("a", "ab"), True),
            (("ab", "a"), True),
            (("b", "ab", "aab", "aa"), False),
            (("aab", "ab", "b", "aa"), False),
            (("a", "ab", "ba"), False),
            (("aa", "aaa"), False),
            (("a", "aaaaa"), False),
            (("ab", "ba", "aba"), False),
            (("ab", "abb", "baab"), True),
            (("c", "ca", "ab", "bc"), False),
            (("a", "b", "c", "abcab"), False),
        ):
            self.assert_same(is_unique(code), expected)

    def test_as_the_rests_tell(self):
        for code in families():
            self.assert_same(is_unique(code), "" not in listed_rests(code))

    def test_no_short_string_of_a_unique_code_has_two_parses(self):
        for code in small_codes() + chosen_codes(40, 3, "ab", 3):
            if is_unique(code):
                for string in strings_up_to(7, "ab"):
                    self.assertLessEqual(count_parses(code, string), 1)


class FirstAmbiguous(CodeCase):
    """Point 24."""

    def first_listed(self, code, most, letters="ab"):
        for string in strings_up_to(most, letters):
            if len(all_parses(code, string)) > 1:
                return string
        return None

    def test_against_all_strings_in_order_by_length(self):
        longest = 0
        for code in small_codes() + chosen_codes(200, 4, "ab", 4):
            found = first_ambiguous(code)
            most = 7 if found is None else min(len(found), 9)
            longest = max(longest, most)
            expected = self.first_listed(code, most)
            if found is None or len(found) <= 9:
                self.assert_same(found, expected)
            else:
                self.assertIsNone(expected)
        self.assertGreater(longest, 7)

    def test_of_three_letters(self):
        for code in chosen_codes(150, 5, "abc", 3):
            found = first_ambiguous(code)
            if found is None:
                self.assertIsNone(self.first_listed(code, 4, "abc"))
            elif len(found) <= 6:
                self.assert_same(found, self.first_listed(code, len(found), "abc"))

    def test_cases(self):
        for code, expected in (
            (("a", "ab", "ba"), "aba"),
            (("a", "abb", "bba"), "abba"),
            (("a", "aa"), "aa"),
            (("aaaaa", "aaaa"), "a" * 9),
            (("b", "a", "ba", "ab"), "ab"),
            (("c", "bb", "cb", "bc"), "cbc"),
            (("b", "ca", "bc", "a"), "bca"),
            (("ccb", "c", "cb"), "ccb"),
            (("ab", "ba", "aba"), "ababa"),
            (("c", "cb", "bc", "a", "ab", "ba"), "aba"),
            (("aa", "aab", "baa"), "aabaa"),
            (("aa", "aaa", "b", "bb"), "bb"),
        ):
            self.assert_same(first_ambiguous(code), expected)

    def test_longer_than_24_letters(self):
        code = ("aaaba", "abbbb", "bbbbb", "bbaaa", "aaab", "ba")
        found = first_ambiguous(code)
        self.assertEqual(len(found), 26)
        self.assertEqual(found, first_by_readings(code, 27))
        kind, parses = unique_evidence(code)
        self.assertEqual(kind, "two")
        self.assertEqual([string_of_words(code, parse) for parse in parses], [found, found])
        self.assert_same(accepts_unique(code, ("two", parses)), True)

    def test_against_all_readings(self):
        longest = 0
        for code in chosen_codes(3000, 6, "ab", 5) + chosen_codes(1000, 12, "abc", 5):
            found = first_ambiguous(code)
            if found is not None:
                longest = max(longest, len(found))
                self.assertEqual(found, first_by_readings(code, len(found)))
            else:
                self.assertIsNone(first_by_readings(code, 9))
        self.assertGreater(longest, 12)

    def test_other_first_and_last_numbers(self):
        for code in families():
            if not is_unique(code):
                kind, (first, second) = unique_evidence(code)
                self.assertEqual(kind, "two")
                self.assertNotEqual(first[0], second[0])
                self.assertNotEqual(first[-1], second[-1])
                self.assertEqual(string_of_words(code, first), first_ambiguous(code))
                self.assertEqual(string_of_words(code, second), first_ambiguous(code))
                if len(first_ambiguous(code)) <= 24:
                    for parse in all_parses(code, first_ambiguous(code)):
                        others = [other for other in all_parses(code, first_ambiguous(code)) if other != parse]
                        self.assertTrue(all(other[0] != parse[0] and other[-1] != parse[-1] for other in others))


class Evidence(CodeCase):
    """Point 23."""

    def test_what_is_told_is_accepted(self):
        for code in families():
            evidence = unique_evidence(code)
            if is_unique(code):
                self.assert_same(evidence, ("unique", rests(code)))
            else:
                self.assertEqual(evidence[0], "two")
                self.assertEqual((type(evidence), type(evidence[1])), (tuple, tuple))
                self.assertEqual([type(parse) for parse in evidence[1]], [tuple, tuple])
            self.assert_same(accepts_unique(code, evidence), True)

    def test_of_each_code_one_kind_alone(self):
        for code in families():
            if is_unique(code):
                for first, second in itertools.permutations(self.short_parses(code), 2):
                    self.assert_same(accepts_unique(code, ("two", (first, second))), False)
            else:
                for closed in self.closed_tries(code):
                    self.assert_same(accepts_unique(code, ("unique", closed)), False)

    def short_parses(self, code):
        return [parse for many in range(3) for parse in itertools.product(range(len(code)), repeat=many)][:12]

    def closed_tries(self, code):
        found = rests(code)
        ends = {word[at:] for word in code for at in range(len(word))}
        return (found, found[1:], (), tuple(sorted(ends)), tuple(sorted(ends - {""})), tuple(strings_up_to(3)[1:]))

    def test_evidence_for_another_code(self):
        self.assert_same(accepts_unique(("a", "ab", "bb"), ("two", ((0, 2), (1, 0)))), False)
        self.assert_same(accepts_unique(("a", "ab"), ("unique", ())), False)
        self.assert_same(accepts_unique((), ("unique", ())), True)
        self.assert_same(accepts_unique((), ("two", ((), ()))), False)
        self.assert_same(accepts_unique((), ("two", ((0,), (0, 0)))), False)


class ClosedSets(CodeCase):
    """Point 21: what the judge accepts and refuses of sets."""

    LATE = ("a", "ab", "bb")

    def assert_closed(self, code, closed, expected):
        with self.subTest(code=code, closed=closed):
            self.assert_same(accepts_unique(code, ("unique", closed)), expected)

    def test_with_strings_more(self):
        self.assert_closed(self.LATE, ("b",), True)
        self.assert_closed(self.LATE, ("b", "ca"), True)
        self.assert_closed(self.LATE, ("b", "c", "ccccc"), True)
        self.assert_closed(("ab", "c"), ("aa",), True)
        self.assert_closed((), ("a", "b"), True)

    def test_with_strings_more_of_which_something_comes(self):
        self.assert_closed(("ab", "c"), ("aba",), False)
        self.assert_closed(("ab", "c"), ("a",), False)
        self.assert_closed(("ab", "c"), ("a", "aba", "b"), True)
        self.assert_closed(("ab", "c"), ("abb", "b"), True)
        self.assert_closed(("ab", "c"), ("cabb",), False)
        self.assert_closed(("ab", "c"), ("abb", "b", "cabb"), True)
        self.assert_closed(self.LATE, ("a", "b"), False)
        self.assert_closed(self.LATE, ("b", "bb"), False)
        self.assert_closed(("ab", "c"), ("c",), False)

    def test_with_strings_missing(self):
        self.assert_closed(self.LATE, (), False)
        self.assert_closed(self.LATE, ("c",), False)
        code = ("ab", "abc", "cb")
        self.assert_closed(code, rests(code), True)
        self.assert_same(rests(code), ("b", "c"))
        self.assert_closed(code, ("c",), False)
        self.assert_closed(code, ("b",), False)

    def test_each_rest_is_needed(self):
        for code in families():
            found = rests(code)
            if is_unique(code):
                self.assert_closed(code, found, True)
                for at in range(len(found)):
                    self.assert_closed(code, found[:at] + found[at + 1:], False)

    def test_what_is_not_ascending(self):
        self.assert_closed(self.LATE, ("c", "b"), False)
        self.assert_closed(self.LATE, ("b", "b"), False)
        self.assert_closed(self.LATE, ("b", "c", "c"), False)
        self.assert_closed(self.LATE, ("b", "ca", "c"), False)
        self.assert_closed(("ab", "abc", "cb"), ("c", "b"), False)

    def test_with_the_empty_string(self):
        self.assert_closed(self.LATE, ("", "b"), False)
        self.assert_closed((), ("",), False)
        self.assert_closed(("a", "ab", "ba"), ("", "a", "b"), False)

    def test_64_and_65_members(self):
        free = tuple(word for word in WORDS_OF_FIVE if word.startswith("c"))
        self.assertEqual(len(free), 81)
        for many, expected in ((63, True), (64, True), (65, False), (81, False)):
            self.assert_closed(("a", "b"), free[:many], expected)
            self.assert_closed((), WORDS_OF_FIVE[:many], expected)
        self.assert_closed(self.LATE, ("b",) + free[:63], True)
        self.assert_closed(self.LATE, ("b",) + free[:64], False)

    def test_strings_of_5_and_6_letters(self):
        self.assert_closed(self.LATE, ("b", "ccccc"), True)
        self.assert_closed(self.LATE, ("b", "cccccc"), False)
        self.assert_closed(("aa",), ("b" * 5,), True)
        self.assert_closed(("aa",), ("b" * 6,), False)

    def test_other_members(self):
        for member in (None, True, 1, ("b",), ["b"], b"b", "d", "B", "b ", "b\n"):
            self.assert_closed(self.LATE, (member,), False)
            self.assert_closed(self.LATE, ("b", member), False)
            self.assert_closed(self.LATE, (member, "b"), False)

    def test_other_kinds_of_values(self):
        for closed in (None, True, 0, "b", ["b"], {"b"}, {"b": True}, b"b", (("b",),), iter(("b",))):
            self.assert_closed(self.LATE, closed, False)


class TwoParses(CodeCase):
    """Point 22: what the judge accepts and refuses of parses."""

    CODE = ("a", "ab", "ba")

    def assert_two(self, code, parses, expected):
        with self.subTest(code=code, parses=parses):
            self.assert_same(accepts_unique(code, ("two", parses)), expected)

    def test_of_strings_other_than_the_first(self):
        self.assert_two(self.CODE, ((0, 2), (1, 0)), True)
        self.assert_two(self.CODE, ((1, 0), (0, 2)), True)
        self.assert_two(self.CODE, ((0, 0, 2), (0, 1, 0)), True)
        self.assert_two(self.CODE, ((1, 0, 1), (0, 2, 1)), True)
        self.assert_two(("a", "aa"), ((0, 0, 0), (1, 0)), True)

    def test_equal_ones(self):
        self.assert_two(self.CODE, ((0, 2), (0, 2)), False)
        self.assert_two(self.CODE, ((1, 0), (1, 0)), False)
        self.assert_two(self.CODE, ((), ()), False)

    def test_strings_that_differ(self):
        self.assert_two(self.CODE, ((0, 1), (1, 0)), False)
        self.assert_two(self.CODE, ((0, 2), (1,)), False)
        self.assert_two(self.CODE, ((0, 2), (1, 0, 0)), False)
        self.assert_two(self.CODE, ((), (0,)), False)
        self.assert_two(("ab", "a", "b"), ((1,), (2,)), False)

    def test_numbers_that_are_no_words(self):
        for number in (3, -1, True, False, None, "0", (0,), 2 ** 70, 0.0):
            self.assert_two(self.CODE, ((0, 2), (1, number)), False)
            self.assert_two(self.CODE, ((number, 2), (1, 0)), False)
        self.assert_two(self.CODE, ((False, 2), (True, 0)), False)
        self.assert_two(self.CODE, ((0, 2), (True, 0)), False)
        self.assert_two(self.CODE, ((0, 2), (-2, 0)), False)
        self.assert_two(self.CODE, ((0, -1), (1, 0)), False)
        self.assert_two(("a", "aa"), ((0, 0), (True,)), False)

    def test_100_and_101_numbers(self):
        code = ("a", "aa")
        for many, expected in ((99, True), (100, True), (101, False), (150, False)):
            self.assert_two(code, ((0,) * many, (0,) * (many - 2) + (1,)), expected)
            self.assert_two(code, ((0,) * (many - 2) + (1,), (0,) * many), expected)
        self.assert_two(code, ((1,) * 50, (0,) * 100), True)
        self.assert_two(code, ((1,) * 100, (1,) * 99 + (0, 0)), False)
        long = ("aaaaa", "aaaa")
        self.assert_two(long, ((0,) * 100, (1,) * 125), False)
        self.assert_two(long, ((0,) * 80, (1,) * 100), True)
        self.assert_two(long, ((0,) * 95 + (1,) * 5, (1,) * 5 + (0,) * 95), True)

    def test_other_kinds_of_values(self):
        for parses in (
            None, True, 0, "", (), ((0, 2),), ((0, 2), (1, 0), (0, 2)), [(0, 2), (1, 0)], ([0, 2], (1, 0)),
            ((0, 2), [1, 0]), ([0, 2], [1, 0]), (0, 1), ("02", "10"), {(0, 2): 1, (1, 0): 2}, {(0, 2), (1, 0)},
            ((0, 2), None), (None, (1, 0)), (b"\0\2", (1, 0)), (range(2), (1, 0)),
        ):
            self.assert_two(self.CODE, parses, False)


class Judge(CodeCase):
    """Points 23 and 28: values of all kinds are judged."""

    def test_other_words_in_front(self):
        for word in ("", "Unique", "unique ", "one", "two", "ring", None, True, 0, b"unique", ("unique",), ["unique"]):
            self.assert_same(accepts_unique(("a", "ab", "bb"), (word, ("b",))), False)
        for word in ("", "Two", "two ", "unique", None, 2, b"two", ("two",), ["two"]):
            self.assert_same(accepts_unique(("a", "ab", "ba"), (word, ((0, 2), (1, 0)))), False)

    def test_lists_and_other_lengths(self):
        for code in (("a", "ab", "bb"), ("a", "ab", "ba"), ()):
            kind, told = unique_evidence(code)
            self.assert_same(accepts_unique(code, (kind, told)), True)
            for value in ([kind, told], (kind,), (kind, told, told), (told, kind), ((kind, told),), (kind, list(told)),
                          (kind, (told,)), {kind: told}, kind, told, (), (kind, None)):
                self.assert_same(accepts_unique(code, value), False)

    def test_all_other_kinds(self):
        for value in (None, True, False, 0, 1, "", "unique", "two", (), [], {}, set(), b"", 0.5, object(), range(2)):
            for code in ((), ("a",), ("a", "ab", "ba")):
                self.assert_same(accepts_unique(code, value), False)


class Stays(CodeCase):
    """Point 26."""

    def test_with_some_words_in_any_order(self):
        for code in chosen_codes(60, 7, "abc", 4, 5):
            if is_unique(code):
                for many in range(len(code) + 1):
                    for words in itertools.permutations(code, many):
                        self.assert_same(is_unique(words), True)

    def test_backwards(self):
        for code in families():
            self.assert_same(is_unique(backwards(code)), is_unique(code))
            if not is_unique(code):
                self.assertEqual(len(first_ambiguous(backwards(code))), len(first_ambiguous(code)))

    def test_with_letters_exchanged(self):
        for code in families()[::3]:
            for order in itertools.permutations("abc"):
                changed = renamed(code, "".join(order))
                self.assert_same(is_unique(changed), is_unique(code))
                self.assertEqual(len(rests(changed)), len(rests(code)))

    def test_words_in_place_of_letters(self):
        outer = [code for code in chosen_codes(200, 8, "abc", 2, 5) if is_unique(code)]
        inner = [code for code in chosen_codes(200, 9, "abc", 2, 6) if is_unique(code) and len(code) == 3]
        self.assertGreater(len(outer) * len(inner), 1000)
        for code in outer:
            for words in inner:
                put = {"a": words[0], "b": words[1], "c": words[2]}
                composed = tuple("".join(put[letter] for letter in word) for word in code)
                self.assert_same(is_unique(composed), True)


class Sums(CodeCase):
    """Point 27."""

    def test_of_unique_codes(self):
        seen = 0
        for code in families() + chosen_codes(1000, 10, "ab", 4) + chosen_codes(1000, 11, "abc", 2):
            if is_unique(code):
                seen += 1
                self.assertLessEqual(sum(Fraction(1, 3 ** len(word)) for word in code), 1)
                if len(set("".join(code))) <= 2:
                    self.assertLessEqual(sum(Fraction(1, 2 ** len(word)) for word in code), 1)
        self.assertGreater(seen, 300)

    def test_codes_with_a_greater_sum_are_not(self):
        for code in (
            ("a", "b", "c", "aaaaa"), ("a", "b", "ca", "cb", "cc", "cab"), ("a", "b", "ab"), ("aa", "ab", "ba", "bb", "b"),
        ):
            self.assert_same(is_unique(code), False)


class Example(CodeCase):
    """Point 29."""

    def test_both_codes(self):
        code = ("a", "ab", "ba")
        self.assert_same(accepts_unique(code, ("two", ((0, 2), (1, 0)))), True)
        self.assert_same(first_ambiguous(code), "aba")
        self.assert_same(is_unique(("a", "ab", "bb")), True)


if __name__ == "__main__":
    unittest.main()
