"""Points 65 to 73 and 75: decoder states, synchronizing strings, and the evidence about prefix codes."""

import itertools
import math
import random
import unittest

from syncedwords.errors import NotPossible, TooLarge
from syncedwords.listeners import is_observable
from syncedwords.prefixes import accepts_decoder, count_strings, decoder_evidence, decoder_states, is_synchronizing
from syncedwords.prefixes import left_behind, resolving, shortest
from tests.families import FIVE, chosen_codes, small_codes
from tests.oracle import CODES, CodeCase, strings_up_to

STUCK = (
    ("aa", "ab", "ba", "bb"), ("aa",), ("aaa",), ("aaaaa",), ("bb",), ("aaaa",), ("abbb", "bbab", "bbbb", "abab"), ("cb", "cc", "bb", "bc"),
)
SOUND = (
    ("a",), ("b", "a"), ("a", "b", "c"), ("ab",), ("abc",), ("ab", "ba"), ("a", "ba", "bb"), ("a", "ba", "bba", "bbb"),
    ("ab", "b"), ("aab", "ab", "b"), ("aaaa", "baaa", "aaab", "bb"), ("aaaab", "abaa", "abb", "bba"),
    ("aa", "ab", "b"), ("aaa", "aab", "ab", "b"), ("abcab",), ("ca", "cb", "a", "b"),
)
MANY_STATES = (
    FIVE, ("abaa", "ababa", "aaa", "babaa", "aaba", "baabb"), ("ccaac", "caccb", "bbba", "accba", "baacc"),
    ("aaaaa", "bbbbb", "ccccc"), ("abcab", "bcabc", "cabca"),
)
NO_TUPLES = (None, True, 0, 1, "", "string", [], {}, set(), b"", 0.5, range(2))


def is_prefix_code(code):
    return len(code) > 0 and not any(
        first != second and first.startswith(second) for first in code for second in code
    )


def prefix_codes():
    listed = small_codes() + list(CODES) + chosen_codes(400, 90, "ab", 4) + chosen_codes(300, 91)
    return list(STUCK + SOUND + MANY_STATES) + [code for code in listed if is_prefix_code(code)]


def small_prefix_codes():
    return [code for code in prefix_codes() if len(listed_states(code)) <= 9]


def listed_states(code):
    """All strings with which a longer word begins, in order by length."""
    strings = {word[:many] for word in code for many in range(len(word))}
    return tuple(sorted(strings, key=lambda string: (len(string), string)))


def followed(code, state, string):
    """Take word by word away from what is pending and the string; return what is left pending, or None."""
    left = state + string
    while True:
        ends = [word for word in code if left.startswith(word)]
        if not ends:
            return left if any(word.startswith(left) for word in code) else None
        left = left[len(ends[0]):]


def listed_left(code, string):
    left = {followed(code, state, string) for state in listed_states(code)} - {None}
    return tuple(sorted(left, key=lambda state: (len(state), state)))


def resolves(code, string, first, second):
    one, other = followed(code, first, string), followed(code, second, string)
    return one == other if one is not None and other is not None else (one is None) != (other is None)


def closure(code, pair):
    """All pairs of states to which strings lead from the pair."""
    found = set()
    waiting = [pair]
    while waiting:
        first, second = waiting.pop()
        if (first, second) not in found:
            found.add((first, second))
            for letter in "abc":
                one, other = followed(code, first, letter), followed(code, second, letter)
                if one is not None and other is not None:
                    waiting.append((one, other))
    return found


def is_stuck(code, pair):
    """Tell whether no string resolves the pair: nowhere do states come together, or can one be followed alone."""
    return all(
        first != second and all(
            (followed(code, first, letter) is None) == (followed(code, second, letter) is None) for letter in "abc"
        ) for first, second in closure(code, pair)
    )


def all_stuck(code):
    return tuple(sorted(
        pair for pair in itertools.permutations(listed_states(code), 2) if is_stuck(code, pair)
    ))


class States(CodeCase):
    """Point 65."""

    def test_in_order_by_length(self):
        for code in prefix_codes():
            self.assert_same(decoder_states(code), listed_states(code))

    def test_cases(self):
        self.assert_same(decoder_states(("a",)), ("",))
        self.assert_same(decoder_states(("c", "b", "a")), ("",))
        self.assert_same(decoder_states(("a", "ba", "bb")), ("", "b"))
        self.assert_same(decoder_states(("bba", "abc", "bbb", "ac")), ("", "a", "b", "ab", "bb"))
        self.assert_same(decoder_states(("ccccc",)), ("", "c", "cc", "ccc", "cccc"))
        self.assert_same(decoder_states(("ba", "aab")), ("", "a", "b", "aa"))

    def test_no_prefix_code(self):
        for code in ((), ("a", "ab"), ("ab", "a"), ("a", "b", "c", "abc"), ("ab", "ba", "aba"), ("c", "ab", "abcab")):
            self.assert_error(NotPossible, "why", "prefix", decoder_states, code)


class LeftBehind(CodeCase):
    """Point 66."""

    def test_against_each_state(self):
        for code in prefix_codes():
            letters = "ab" if set("".join(code)) <= set("ab") else "abc"
            for string in strings_up_to(4 if letters == "ab" else 3, letters) + ["c", "aabbaa", "bababa", "abcab"]:
                self.assert_same(left_behind(code, string), listed_left(code, string))

    def test_of_long_strings(self):
        numbers = random.Random(92)
        for code in prefix_codes():
            message = "".join(numbers.choice(code) for _ in range(30))
            for begin, end in ((0, 24), (1, 25), (3, 20)):
                self.assert_same(left_behind(code, message[begin:end]), listed_left(code, message[begin:end]))
                self.assertGreater(len(left_behind(code, message[begin:end])), 0)

    def test_empty_exactly_if_not_observable(self):
        for code in prefix_codes()[::3]:
            for string in strings_up_to(3) + ["aabba", "abcab", "bbbbb", "c" * 24]:
                left = left_behind(code, string)
                self.assert_same(len(left) > 0, is_observable(code, string))
                if not left:
                    self.assert_same(left, ())

    def test_cases(self):
        code = ("a", "ba", "bb")
        for string, expected in (("", ("", "b")), ("b", ("", "b")), ("bb", ("", "b")), ("a", ("",)), ("bab", ("b",)), ("c", ())):
            self.assert_same(left_behind(code, string), expected)
        self.assert_same(left_behind(("ab", "b"), "a"), ("a",))
        self.assert_same(left_behind(("ab", "b"), "aa"), ())
        self.assert_same(left_behind(("ba", "aab"), ""), ("", "a", "b", "aa"))
        self.assert_same(left_behind(("ba", "aab"), "a"), ("", "a", "aa"))

    def test_letters_that_cannot_follow(self):
        for code in (("ab", "ba"), ("abc",), ("aab", "bb")):
            for string in ("abb", "bbb", "aaaa", "cc", "acb"):
                self.assert_same(left_behind(code, string), listed_left(code, string))


class Synchronizing(CodeCase):
    """Point 67."""

    def test_exactly_one_is_left(self):
        for code in prefix_codes():
            for string in strings_up_to(4, "ab") + ["c", "ca", "abcab", "aabbaabb"]:
                self.assert_same(is_synchronizing(code, string), len(listed_left(code, string)) == 1)

    def test_the_pending_string_behind_it(self):
        """Wherever it stands in a message, the same string is pending behind it."""
        for code in (("a", "ba", "bb"), ("aab", "ab", "b"), ("ab", "ba"), ("abc", "b"), ("aaab", "ba")):
            strings = [string for string in strings_up_to(4, "ab") if is_synchronizing(code, string)]
            self.assertGreater(len(strings), 0)
            messages = ["".join(row) for many in range(5) for row in itertools.product(code, repeat=many)]
            for string in strings:
                pending = {
                    followed(code, "", message[:at + len(string)])
                    for message in messages for at in range(len(message)) if message[at:].startswith(string)
                }
                self.assertLessEqual(pending, set(left_behind(code, string)))

    def test_with_a_synchronizing_string_in_it(self):
        for code in (("a", "ba", "bb"), ("aab", "ab", "b"), ("ab", "ba"), ("abc", "b")):
            for string in strings_up_to(3):
                if is_synchronizing(code, string):
                    for front in strings_up_to(1):
                        for back in strings_up_to(2):
                            longer = front + string + back
                            self.assert_same(is_synchronizing(code, longer), is_observable(code, longer))


class Shortest(CodeCase):
    """Point 68."""

    def test_against_all_strings_in_order_by_length(self):
        none = some = 0
        for code in small_prefix_codes():
            found = shortest(code)
            if found is None:
                none += 1
                self.assertNotEqual(all_stuck(code), ())
                self.assertIsNone(self.first_listed(code, 4))
            else:
                some += 1
                self.assert_same(found, self.first_listed(code, len(found)))
        self.assertGreater(min(none, some - 50), 5)

    def first_listed(self, code, most):
        letters = "".join(sorted(set("".join(code))))
        for string in strings_up_to(most, letters):
            if len(listed_left(code, string)) == 1:
                return string
        return None

    def test_cases(self):
        for code, expected in (
            (("a", "ba", "bb"), "a"), (("aa", "ab", "ba", "bb"), None), (("aab", "ab", "b"), "b"), (("a",), ""),
            (("a", "b", "c"), ""), (("aa",), None), (("ab",), "a"), (("ab", "ba"), "aa"), (("abc",), "a"),
            (("bbba", "a"), "a"), (("aaaa", "baaa", "aaab", "bb"), "baaaab"),
        ):
            self.assert_same(shortest(code), expected)

    def test_empty_exactly_for_words_of_one_letter(self):
        for code in small_prefix_codes():
            self.assertEqual(shortest(code) == "", all(len(word) == 1 for word in code))

    def test_none_exactly_if_two_states_are_stuck(self):
        for code in small_prefix_codes():
            self.assertEqual(shortest(code) is None, all_stuck(code) != ())


class Resolving(CodeCase):
    """Point 69."""

    def test_against_all_strings_in_order_by_length(self):
        longest = 0
        for code in small_prefix_codes()[::2] + list(MANY_STATES):
            letters = "".join(sorted(set("".join(code))))
            for first, second in itertools.product(listed_states(code), repeat=2):
                found = resolving(code, first, second)
                if first == second:
                    self.assert_same(found, "")
                elif found is None:
                    self.assertTrue(is_stuck(code, (first, second)))
                else:
                    longest = max(longest, len(found))
                    self.assertTrue(resolves(code, found, first, second))
                    lesser = [string for string in strings_up_to(min(len(found), 4), letters) if self.before(string, found)]
                    self.assertFalse(any(resolves(code, string, first, second) for string in lesser))
        self.assertGreater(longest, 3)

    def before(self, string, other):
        return (len(string), string) < (len(other), other)

    def test_stuck_pairs(self):
        for code in STUCK:
            stuck = all_stuck(code)
            self.assertNotEqual(stuck, ())
            for first, second in itertools.permutations(listed_states(code), 2):
                self.assertEqual(resolving(code, first, second) is None, (first, second) in stuck)

    def test_cases(self):
        stuck = ("aa", "ab", "ba", "bb")
        for first, second, expected in (
            ("", "a", None), ("a", "", None), ("", "b", None), ("a", "b", "a"), ("b", "a", "a"), ("", "", ""), ("a", "a", ""),
        ):
            self.assert_same(resolving(stuck, first, second), expected)
        self.assert_same(resolving(("ab", "ba"), "a", "b"), "a")
        self.assert_same(resolving(("ab", "ba"), "", "a"), "a")
        self.assert_same(resolving(("ab", "ba"), "", "b"), "b")
        self.assert_same(resolving(("ab", "c"), "", "a"), "a")
        self.assert_same(resolving(("ba", "ca"), "b", "c"), "a")
        self.assert_same(resolving(("aba", "cb", "cab"), "ab", "ca"), "a")
        self.assert_same(resolving(("a",), "", ""), "")

    def test_both_directions(self):
        for code in prefix_codes()[::4]:
            for first, second in itertools.combinations(listed_states(code), 2):
                self.assert_same(resolving(code, first, second), resolving(code, second, first))


class DecoderEvidence(CodeCase):
    """Points 70 and 71: for each prefix code there is evidence of exactly one word."""

    def test_what_is_told_is_accepted(self):
        kinds = set()
        for code in prefix_codes():
            evidence = decoder_evidence(code)
            self.assertIs(type(evidence), tuple)
            word, told = evidence
            kinds.add(word)
            self.assert_same(accepts_decoder(code, evidence), True)
            if word == "string":
                self.assertIs(type(told), str)
                self.assertLessEqual(len(told), 10000)
                self.assertEqual(len(listed_left(code, told)), 1)
                self.assertEqual(all_stuck(code), ())
            else:
                self.assertIs(type(told), tuple)
                self.assertEqual(list(told), sorted(set(told)))
                self.assertTrue(set(told) <= set(all_stuck(code)))
        self.assertEqual(kinds, {"string", "stuck"})

    def test_of_many_states(self):
        self.assertEqual(len(decoder_states(("aaaaa", "baaaa", "caaaa"))), 13)
        for code in MANY_STATES + (("aaaaa", "abbbb", "bbbbb", "baaaa", "ccccc", "caaaa"),):
            self.assertGreater(len(decoder_states(code)), 9)
            self.assert_same(accepts_decoder(code, decoder_evidence(code)), True)

    def test_the_other_word_is_refused(self):
        for code in prefix_codes():
            if decoder_evidence(code)[0] == "string":
                states = listed_states(code)
                tries = [tuple(sorted(itertools.permutations(states, 2)))]
                tries += [tuple(sorted(closure(code, pair))) for pair in itertools.permutations(states[:4], 2)]
                for pairs in tries + [()] + [(pair,) for pair in itertools.permutations(states[:5], 2)]:
                    self.assertIs(accepts_decoder(code, ("stuck", pairs)), False)
            else:
                for string in strings_up_to(4, "ab") + ["a" * 100, "ab" * 50]:
                    self.assertIs(accepts_decoder(code, ("string", string)), False)


class StuckSets(CodeCase):
    """Point 70: what the judge accepts and refuses of stuck sets."""

    CODE = ("aa", "ab", "ba", "bb")
    TOLD = (("", "a"), ("", "b"), ("a", ""), ("b", ""))

    def assert_stuck(self, code, pairs, expected):
        with self.subTest(code=code, pairs=pairs):
            self.assert_same(accepts_decoder(code, ("stuck", pairs)), expected)

    def test_all_sets_of_pairs(self):
        for code in (("aa",), ("aa", "ab", "ba", "bb"), ("a", "ba", "bb"), ("ab", "ba"), ("aaa",), ("aa", "bb")):
            pairs = list(itertools.permutations(listed_states(code), 2))
            for many in range(len(pairs) + 1):
                for row in itertools.combinations(sorted(pairs), many):
                    right = many > 0 and all(
                        self.goes_on(code, pair, row, letter) for pair in row for letter in "abc"
                    )
                    self.assert_stuck(code, row, right)

    def goes_on(self, code, pair, row, letter):
        one, other = followed(code, pair[0], letter), followed(code, pair[1], letter)
        return (one, other) in row or (one is None and other is None)

    def test_all_stuck_pairs(self):
        for code in STUCK:
            self.assert_stuck(code, all_stuck(code), True)

    def test_a_pair_missing(self):
        self.assert_stuck(self.CODE, self.TOLD, True)
        for at in range(4):
            self.assert_stuck(self.CODE, self.TOLD[:at] + self.TOLD[at + 1:], False)
        self.assert_stuck(("aaa",), (("", "a"), ("a", "aa"), ("aa", "")), True)
        for at in range(3):
            pairs = (("", "a"), ("a", "aa"), ("aa", ""))
            self.assert_stuck(("aaa",), pairs[:at] + pairs[at + 1:], False)

    def test_with_pairs_that_are_not_stuck(self):
        self.assert_stuck(self.CODE, (("", "a"), ("", "b"), ("a", ""), ("a", "b"), ("b", "")), False)
        self.assert_stuck(self.CODE, (("", "a"), ("", "b"), ("a", ""), ("b", ""), ("b", "a")), False)
        self.assert_stuck(("ab", "ba"), (("", "a"), ("a", "")), False)

    def test_not_ascending(self):
        self.assert_stuck(self.CODE, self.TOLD[::-1], False)
        self.assert_stuck(self.CODE, self.TOLD[:1] + self.TOLD, False)
        self.assert_stuck(self.CODE, self.TOLD + self.TOLD[-1:], False)
        for at in range(3):
            pairs = self.TOLD[:at] + (self.TOLD[at + 1], self.TOLD[at]) + self.TOLD[at + 2:]
            self.assert_stuck(self.CODE, pairs, False)
        by_length = (("", "a"), ("a", "aa"), ("aa", ""))
        self.assert_stuck(("aaa",), by_length, True)
        self.assert_stuck(("aaa",), (("aa", ""), ("", "a"), ("a", "aa")), False)

    def test_ascending_as_strings_not_by_length(self):
        code = ("abbb", "bbab", "bbbb", "abab")
        told = all_stuck(code)
        self.assertLess(told.index(("abb", "b")), told.index(("b", "abb")))
        self.assert_stuck(code, told, True)
        by_length = tuple(sorted(told, key=lambda pair: [(len(state), state) for state in pair]))
        self.assertNotEqual(by_length, told)
        self.assert_stuck(code, by_length, False)

    def test_equal_states(self):
        for state in ("", "a", "b"):
            self.assert_stuck(self.CODE, tuple(sorted(self.TOLD + ((state, state),))), False)
        self.assert_stuck(("aa",), (("", ""), ("a", "a")), False)
        self.assert_stuck(("a",), (("", ""),), False)
        self.assert_stuck(("aa",), (("", ""), ("", "a"), ("a", ""), ("a", "a")), False)

    def test_strings_that_are_no_states(self):
        for string in ("aa", "ab", "c", "d", "A", "aaa", None, True, 0, ("a",), b"a", ["a"]):
            for pair in ((string, ""), ("", string), (string, "a"), ("b", string)):
                self.assert_stuck(self.CODE, self.TOLD + (pair,), False)
                self.assert_stuck(self.CODE, (pair,), False)
                self.assert_stuck(self.CODE, (pair,) + self.TOLD, False)
        self.assert_stuck(("ab",), (("c", "d"),), False)

    def test_no_pair(self):
        for code in STUCK + SOUND:
            self.assert_stuck(code, (), False)

    def test_lists_and_other_kinds(self):
        for pairs in NO_TUPLES + (list(self.TOLD), set(self.TOLD), dict.fromkeys(self.TOLD), (self.TOLD,), iter(self.TOLD)):
            self.assert_stuck(self.CODE, pairs, False)
        for pair in (["", "a"], ("",), ("", "a", ""), "", "ab", None, {"", "a"}, 0, (("", "a"),)):
            self.assert_stuck(self.CODE, (pair,) + self.TOLD[1:], False)
            self.assert_stuck(self.CODE, self.TOLD + (pair,), False)


class StringEvidence(CodeCase):
    """Point 71: what the judge accepts and refuses of strings."""

    CODE = ("a", "ba", "bb")

    def assert_string(self, code, string, expected):
        with self.subTest(code=code):
            self.assert_same(accepts_decoder(code, ("string", string)), expected)

    def test_each_string(self):
        for code in SOUND + MANY_STATES:
            for string in strings_up_to(5, "ab") + ["c", "abc", "abcab"]:
                self.assert_string(code, string, len(listed_left(code, string)) == 1)

    def test_10000_and_10001_letters(self):
        for many, expected in ((9999, True), (10000, True), (10001, False), (20000, False)):
            self.assert_string(self.CODE, "a" * many, expected)
            self.assert_string(self.CODE, "b" * (many - 1) + "a", expected)
            self.assert_string(("a",), "a" * many, expected)
            self.assert_string(self.CODE, "b" * many, False)
            self.assert_string(self.CODE, "a" * (many - 1) + "c", False)
        self.assert_string(("ab",), "ab" * 5000, True)
        self.assert_string(("ab",), "ab" * 5000 + "a", False)

    def test_not_observable(self):
        for code, string in ((("ab",), "aa"), (("ab",), "c"), (("a",), "b"), (("ab", "b"), "aa"), (("aa",), "ab")):
            self.assert_string(code, string, False)

    def test_the_empty_string(self):
        for code in SOUND + STUCK + MANY_STATES:
            self.assert_string(code, "", all(len(word) == 1 for word in code))

    def test_other_letters_and_kinds(self):
        for string in NO_TUPLES[:4] + (["a"], ("a",), b"a", "A", "d", "a ", "a\n", "ad", "d" * 10000, {"a"}, 0.5, ("b", "a")):
            self.assert_string(self.CODE, string, False)


class Judge(CodeCase):
    """Point 74: values of all kinds are judged."""

    def test_other_words_in_front(self):
        for word in ("", "String", "string ", "stuck", None, True, 0, b"string", ("string",), ["string"]):
            self.assert_same(accepts_decoder(("a", "ba", "bb"), (word, "a")), False)
        for word in ("", "Stuck", "stuck ", "string", None, True, 0, b"stuck", ("stuck",)):
            self.assert_same(accepts_decoder(StuckSets.CODE, (word, StuckSets.TOLD)), False)

    def test_lists_and_other_lengths(self):
        for code in STUCK + SOUND:
            told = decoder_evidence(code)
            for value in (list(told), told[:-1], told + told[-1:], told + (None,), told[1:], told[::-1], (told,), told[:1], ()):
                self.assert_same(accepts_decoder(code, value), False)

    def test_all_other_kinds(self):
        for value in NO_TUPLES + ("stuck", "string", object(), ("stuck",), ("string",), ("string", None), ("stuck", None)):
            for code in (("a",), ("aa",), ("a", "ba", "bb"), StuckSets.CODE):
                self.assert_same(accepts_decoder(code, value), False)

    def test_evidence_for_another_code(self):
        self.assert_same(accepts_decoder(("ba", "bb", "a"), ("string", "ba")), True)
        self.assert_same(accepts_decoder(("aa", "ab", "ba", "bb"), ("string", "ba")), False)
        self.assert_same(accepts_decoder(("aa", "ab", "ba"), ("stuck", StuckSets.TOLD)), False)


class Counts(CodeCase):
    """Points 72 and 73."""

    def test_against_a_listing(self):
        for code in small_prefix_codes()[::2]:
            letters = "".join(sorted(set("".join(code))))
            for many in range(6 if len(letters) < 3 else 5):
                strings = ["".join(row) for row in itertools.product(letters, repeat=many)]
                left = [len(listed_left(code, string)) for string in strings]
                expected = (sum(1 for number in left if number > 0), sum(1 for number in left if number == 1))
                self.assert_same(count_strings(code, many), expected)

    def test_of_12_letters(self):
        for code in (("a", "ba", "bb"), ("ab", "ba"), ("aab", "ab", "b"), ("aa", "ab", "ba", "bb"), ("aaab", "ba")):
            strings = ["".join(row) for row in itertools.product("ab", repeat=12)]
            left = [len(listed_left(code, string)) for string in strings]
            expected = (sum(1 for number in left if number > 0), sum(1 for number in left if number == 1))
            self.assert_same(count_strings(code, 12), expected)

    def test_no_fewer_with_one_letter_more(self):
        for code in small_prefix_codes()[::3]:
            former = (0, 0)
            for many in range(21):
                counts = count_strings(code, many)
                self.assertGreaterEqual(counts[0], former[0])
                self.assertGreaterEqual(counts[1], former[1])
                self.assertLessEqual(counts[1], counts[0])
                former = counts

    def test_cases(self):
        for code, many, expected in (
            (("a",), 0, (1, 1)), (("a",), 20, (1, 1)), (("a", "b", "c"), 20, (3 ** 20, 3 ** 20)), (("ab",), 0, (1, 0)),
            (("ab",), 1, (2, 2)), (("ab",), 20, (2, 2)), (("aa",), 20, (1, 0)), (("a", "ba", "bb"), 3, (8, 7)),
            (("a", "ba", "bb"), 20, (2 ** 20, 2 ** 20 - 1)), (("aa", "ab", "ba", "bb"), 20, (2 ** 20, 0)),
        ):
            self.assert_same(count_strings(code, many), expected)

    def test_lengths_with_a_common_divisor(self):
        """If each letter can follow each state, some string is synchronizing only if none divides all lengths."""
        seen = 0
        for code in prefix_codes() + [("aa", "ab", "ba", "bb", "c"), ("aaa", "aab", "ab", "b")]:
            letters = set("".join(code))
            if all(followed(code, state, letter) is not None for state in listed_states(code) for letter in letters):
                if math.gcd(*[len(word) for word in code]) > 1:
                    seen += 1
                    self.assertEqual(decoder_evidence(code)[0], "stuck")
                    self.assertIs(shortest(code), None)
                    self.assertEqual([count_strings(code, many)[1] for many in range(21)], [0] * 21)
        self.assertGreater(seen, 5)


class TooManyStates(CodeCase):
    """Point 74: 9 decoder states and 10."""

    NINE = (("aaaaa", "baaaa"), ("abcab", "baaaa"), ("aaaab", "bbbba", "c"), ("aaaaa", "abbbb", "ba"))
    TEN = (("aaaaa", "baaaa", "ca"), ("abcab", "bcabc", "cb"))

    def test_none_for_9(self):
        for code in self.NINE:
            self.assertEqual(len(decoder_states(code)), 9)
            shortest(code)
            for many in (0, 20):
                count_strings(code, many)

    def test_10_states_and_more(self):
        for code in self.TEN + MANY_STATES:
            self.assertGreaterEqual(len(decoder_states(code)), 10)
            self.assert_error(TooLarge, "what", "states", shortest, code)
            for many in (0, 1, 20):
                self.assert_error(TooLarge, "what", "states", count_strings, code, many)
        for code in self.TEN:
            self.assertEqual(len(decoder_states(code)), 10)

    def test_the_others_raise_nothing(self):
        for code in self.TEN + MANY_STATES:
            left_behind(code, "a")
            is_synchronizing(code, "a")
            resolving(code, "", decoder_states(code)[-1])
            accepts_decoder(code, decoder_evidence(code))


class Example(CodeCase):
    """Point 75."""

    def test_both_codes(self):
        code = ("a", "ba", "bb")
        self.assert_same(decoder_states(code), ("", "b"))
        for many in range(1, 25):
            self.assert_same(left_behind(code, "b" * many), ("", "b"))
        self.assert_same(left_behind(code, "a"), ("",))
        self.assert_same(resolving(("aa", "ab", "ba", "bb"), "", "a"), None)


if __name__ == "__main__":
    unittest.main()
