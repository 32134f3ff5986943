"""Points 12 to 16: needless words, the same messages, words read backwards, renamed, and one word more."""

import itertools
import unittest

from syncedwords.made import backwards, generators, have_same, needless, renamed
from syncedwords.parses import boundaries, common_boundaries, count_parses, index_of_parse, is_message, nth_parse
from tests.oracle import CODES, LONG, CodeCase, all_parses, places_of, strings_up_to

ORDERS = tuple("".join(order) for order in itertools.permutations("abc"))
STRINGS = strings_up_to(4) + ["aabba", "ababa", "aaaaaa", "abcabc", "cbcbcb", "abbbabb"]


def listed_parses(code, string):
    return [nth_parse(code, string, index) for index in range(count_parses(code, string))]


def codes_of(words, most):
    """All codes of at most so many of the words, each set of words in one sequence."""
    return [code for many in range(most + 1) for code in itertools.combinations(words, many)]


def needless_by_listing(code):
    return tuple(
        number for number, word in enumerate(code)
        if all_parses(code[:number] + code[number + 1:], word)
    )


class Needless(CodeCase):
    """Point 12."""

    CASES = (
        ((), (), ()),
        (("a",), (), ("a",)),
        (("aa",), (), ("aa",)),
        (("ab", "ba"), (), ("ab", "ba")),
        (("a", "ab", "ba"), (), ("a", "ab", "ba")),
        (("c", "b", "a"), (), ("c", "b", "a")),
        (("aa", "aaa"), (), ("aa", "aaa")),
        (("a", "aa"), (1,), ("a",)),
        (("aa", "a"), (0,), ("a",)),
        (("aa", "aaa", "aaaaa"), (2,), ("aa", "aaa")),
        (("a", "aa", "aaa", "aaaa", "aaaaa"), (1, 2, 3, 4), ("a",)),
        (("aaaaa", "aaa", "a", "aaaa", "aa"), (0, 1, 3, 4), ("a",)),
        (("ab", "a", "aab", "aa"), (2, 3), ("ab", "a")),
        (("abc", "ab", "c", "b", "a", "bc"), (0, 1, 5), ("c", "b", "a")),
        (("abab", "ab", "ba", "baab", "aba"), (0, 3), ("ab", "ba", "aba")),
        (("ababa", "ab", "a", "ba"), (0,), ("ab", "a", "ba")),
    )

    def test_cases(self):
        for code, numbers, left in self.CASES:
            self.assert_same(needless(code), numbers)
            self.assert_same(generators(code), left)

    def test_as_by_listing(self):
        for code in CODES + tuple(codes_of(("a", "b", "ab", "aab", "aa", "bba", "abb"), 6)):
            self.assert_same(needless(code), needless_by_listing(code))

    def test_generators_keep_the_sequence(self):
        for code in CODES:
            for words in itertools.islice(itertools.permutations(code), 30):
                left_out = needless_by_listing(words)
                expected = tuple(word for number, word in enumerate(words) if number not in left_out)
                self.assert_same(generators(words), expected)


class Same(CodeCase):
    """Point 13."""

    WORDS = ("a", "b", "aa", "ab", "ba", "bb")

    def messages(self, code):
        return tuple(string for string in strings_up_to(4, "ab") if all_parses(code, string))

    def test_as_the_messages_are(self):
        codes = codes_of(self.WORDS, 6)
        messages = {code: self.messages(code) for code in codes}
        for code in codes:
            for other in codes:
                self.assert_same(have_same(code, other), messages[code] == messages[other])

    def test_the_sequence_does_not_matter(self):
        self.assert_same(have_same(("ab", "a"), ("a", "ab")), True)
        self.assert_same(have_same(("c", "b", "a"), ("a", "b", "c", "abc")), True)

    def test_two_with_the_same_and_two_without(self):
        for code, other, expected in (
            ((), (), True),
            ((), ("a",), False),
            (("a",), ("aa",), False),
            (("aa", "aaa"), ("a",), False),
            (("aa", "aaa"), ("aaa", "aaaaa", "aa", "aaaa"), True),
            (("a", "ab"), ("a", "ab", "b"), False),
            (("a", "ab"), ("a", "ab", "aab", "aba"), True),
            (("abc",), ("cba",), False),
            (("ab", "ba", "abba"), ("baab", "ab", "ba", "abab"), True),
        ):
            self.assert_same(have_same(code, other), expected)
            self.assert_same(have_same(other, code), expected)

    def test_a_code_and_its_generators(self):
        for code in CODES:
            left = generators(code)
            self.assert_same(have_same(code, left), True)
            self.assert_same(have_same(left, code), True)
            for string in STRINGS:
                self.assertEqual(is_message(code, string), is_message(left, string))

    def test_no_word_of_the_generators_is_needless(self):
        for code in CODES:
            self.assert_same(needless(generators(code)), ())
            self.assert_same(generators(generators(code)), generators(code))

    def test_generators_are_in_each_code_with_the_same_messages(self):
        codes = codes_of(self.WORDS, 6)
        left = {code: set(generators(code)) for code in codes}
        for code in codes:
            for other in codes:
                same = have_same(code, other)
                self.assertEqual(same, left[code] == left[other])
                if same:
                    self.assertTrue(left[code] <= set(other))


class Backwards(CodeCase):
    """Point 14."""

    def test_each_word_in_its_place(self):
        self.assert_same(backwards(()), ())
        self.assert_same(backwards(("abc", "a", "aab")), ("cba", "a", "baa"))
        self.assert_same(backwards(("ab", "ba")), ("ba", "ab"))
        self.assert_same(backwards(("abcab", "bb", "cca")), ("bacba", "bb", "acc"))

    def test_twice_is_the_code(self):
        for code in CODES:
            self.assert_same(backwards(backwards(code)), code)

    def test_as_many_parses(self):
        for code in CODES:
            for string in STRINGS:
                self.assertEqual(count_parses(backwards(code), string[::-1]), count_parses(code, string))

    def test_boundaries_from_the_other_end(self):
        for code in CODES:
            for string in STRINGS:
                turned = tuple(len(string) - place for place in reversed(boundaries(code, string)))
                self.assertEqual(boundaries(backwards(code), string[::-1]), turned)
                if is_message(code, string):
                    turned = tuple(len(string) - place for place in reversed(common_boundaries(code, string)))
                    self.assertEqual(common_boundaries(backwards(code), string[::-1]), turned)

    def test_the_parses_turned(self):
        for code in CODES:
            for string in STRINGS:
                turned = [parse[::-1] for parse in listed_parses(code, string)]
                self.assertEqual(listed_parses(backwards(code), string[::-1]), sorted(turned))


class Renamed(CodeCase):
    """Point 15."""

    def test_each_letter(self):
        code = ("a", "b", "c", "ab", "cab")
        self.assert_same(renamed(code, "abc"), code)
        self.assert_same(renamed(code, "acb"), ("a", "c", "b", "ac", "bac"))
        self.assert_same(renamed(code, "bac"), ("b", "a", "c", "ba", "cba"))
        self.assert_same(renamed(code, "bca"), ("b", "c", "a", "bc", "abc"))
        self.assert_same(renamed(code, "cab"), ("c", "a", "b", "ca", "bca"))
        self.assert_same(renamed(code, "cba"), ("c", "b", "a", "cb", "acb"))

    def test_no_words(self):
        for order in ORDERS:
            self.assert_same(renamed((), order), ())

    def test_the_same_parses(self):
        for code in CODES:
            for order in ORDERS:
                changed = renamed(code, order)
                for string in ("", "a", "ab", "aba", "aabba", "abcabc", "cbcbc", "bbccb", "aaaaa"):
                    other = "".join({"a": order[0], "b": order[1], "c": order[2]}[letter] for letter in string)
                    self.assertEqual(listed_parses(changed, other), listed_parses(code, string))
                    self.assertEqual(boundaries(changed, other), boundaries(code, string))

    def test_one_order_behind_another(self):
        for code in CODES:
            self.assert_same(renamed(renamed(code, "bca"), "cab"), code)
            self.assert_same(renamed(renamed(code, "bac"), "bac"), code)


class OneWordMore(CodeCase):
    """Point 16."""

    def test_parses_stay_and_further_ones_have_the_word(self):
        for code in CODES:
            if len(code) == 6:
                continue
            for word in ("a", "b", "ab", "bb", "abcab", "ccc"):
                if word not in code:
                    self.compare(code, code + (word,))

    def compare(self, code, longer):
        for string in STRINGS:
            before = listed_parses(code, string)
            after = listed_parses(longer, string)
            self.assertEqual([parse for parse in after if len(code) not in parse], before)
            for parse in before:
                self.assertEqual(nth_parse(longer, string, index_of_parse(longer, parse)), parse)
                self.assertTrue(places_of(code, parse) <= set(boundaries(longer, string)))

    def test_long_strings(self):
        code = ("a", "b", "c", "ab", "bc")
        self.assertEqual(count_parses(code, LONG), 3 ** 8)
        self.assertEqual(count_parses(code + ("abc",), LONG), 4 ** 8)
        self.assertEqual(count_parses(code + ("cab",), LONG), sum(self.ways(LONG, code + ("cab",))))

    def ways(self, string, code):
        """How many parses begin with each word, by the numbers of parses of what is behind it."""
        return [count_parses(code, string[len(word):]) for word in code if string.startswith(word)]


if __name__ == "__main__":
    unittest.main()
