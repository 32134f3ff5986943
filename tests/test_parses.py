"""Points 5 and 9 to 11: parses in their order, their number and indexes, and their boundaries."""

import random
import signal
import unittest

from syncedwords.errors import BadValue, NotPossible
from syncedwords.parses import boundaries, common_boundaries, count_parses, index_of_parse
from syncedwords.parses import is_message, nth_parse, string_of
from tests.oracle import CODES, LONG, CodeCase, all_parses, places_of, strings_up_to

SHORT = strings_up_to(4) + ["aabba", "ababa", "aaaaaa", "abcabc", "cbcbcb", "aabbaab", "ccbcbcbc", "abbbabb"]
POWERS = ("a", "aa", "aaa", "aaaa", "aaaaa")


def samples():
    """Each code with each short string, and with all parses of it."""
    for code in CODES:
        for string in SHORT:
            yield code, string, all_parses(code, string)


class Short(CodeCase):
    def test_string_of_each_parse(self):
        for code, string, parses in samples():
            for parse in parses:
                self.assert_same(string_of(code, parse), string)

    def test_count_and_message(self):
        for code, string, parses in samples():
            self.assert_same(count_parses(code, string), len(parses))
            self.assert_same(is_message(code, string), len(parses) > 0)

    def test_by_index_in_order_as_tuples(self):
        for code, string, parses in samples():
            listed = [nth_parse(code, string, index) for index in range(count_parses(code, string))]
            self.assert_same(listed, parses)

    def test_indexes(self):
        for code, _, parses in samples():
            self.assert_same([index_of_parse(code, parse) for parse in parses], list(range(len(parses))))

    def test_boundaries(self):
        for code, string, parses in samples():
            places = [places_of(code, parse) for parse in parses]
            self.assert_same(boundaries(code, string), tuple(sorted(set().union(*places))))

    def test_common_boundaries(self):
        for code, string, parses in samples():
            if not parses:
                self.assert_error(NotPossible, "why", "message", common_boundaries, code, string)
                continue
            places = [places_of(code, parse) for parse in parses]
            self.assert_same(common_boundaries(code, string), tuple(sorted(places[0].intersection(*places))))


class Empty(CodeCase):
    def test_the_empty_string_has_the_empty_parse(self):
        for code in CODES:
            self.assert_same(count_parses(code, ""), 1)
            self.assert_same(is_message(code, ""), True)
            self.assert_same(nth_parse(code, "", 0), ())
            self.assert_same(string_of(code, ()), "")
            self.assert_same(index_of_parse(code, ()), 0)
            self.assert_same(boundaries(code, ""), (0,))
            self.assert_same(common_boundaries(code, ""), (0,))

    def test_no_other_index(self):
        for code in CODES:
            for index in (1, -1):
                self.assert_error(BadValue, "name", "index", nth_parse, code, "", index)

    def test_code_without_words_has_no_other_message(self):
        for string in strings_up_to(3)[1:] + [LONG]:
            self.assert_same(count_parses((), string), 0)
            self.assert_same(is_message((), string), False)
            self.assert_same(boundaries((), string), ())
            self.assert_error(BadValue, "name", "index", nth_parse, (), string, 0)
            self.assert_error(NotPossible, "why", "message", common_boundaries, (), string)


class NoParse(CodeCase):
    CASES = (
        (("a", "ab", "ba"), "bb"),
        (("a", "ab", "ba"), "b"),
        (("a",), "ab"),
        (("ab",), "aba"),
        (("ab",), "bab"),
        (("a", "b"), "abc"),
        (("aa",), "a" * 23),
        (("ab", "ba"), "ab" * 11 + "aa"),
    )

    def test_nothing_of_them(self):
        for code, string in self.CASES:
            self.assert_same(count_parses(code, string), 0)
            self.assert_same(is_message(code, string), False)
            self.assert_same(boundaries(code, string), ())
            self.assert_error(NotPossible, "why", "message", common_boundaries, code, string)
            for index in (0, -1, 1):
                self.assert_error(BadValue, "name", "index", nth_parse, code, string, index)


class Order(CodeCase):
    def test_by_numbers_not_by_words(self):
        self.assert_same(nth_parse(("aa", "a"), "aaa", 0), (0, 1))
        self.assert_same(nth_parse(("aa", "a"), "aaa", 1), (1, 0))
        self.assert_same(nth_parse(("aa", "a"), "aaa", 2), (1, 1, 1))

    def test_at_the_first_place_that_differs(self):
        code = ("aaa", "a", "aa")
        parses = [nth_parse(code, "aaaa", index) for index in range(7)]
        expected = [(0, 1), (1, 0), (1, 1, 1, 1), (1, 1, 2), (1, 2, 1), (2, 1, 1), (2, 2)]
        self.assert_same(parses, expected)


def fail_by_alarm(number, frame):
    raise AssertionError("parses are listed, not counted")


class Many(CodeCase):
    """Strings of 24 letters with more parses than can be listed in the time given."""

    def setUp(self):
        # Counting takes some thousand steps here; the bound is far above on any machine.
        former = signal.signal(signal.SIGALRM, fail_by_alarm)
        self.addCleanup(signal.signal, signal.SIGALRM, former)
        self.addCleanup(signal.setitimer, signal.ITIMER_REAL, 0)
        signal.setitimer(signal.ITIMER_REAL, 120)

    def sums(self, most):
        """The number of ways to write each number as a sum of numbers from 1 to the most."""
        ways = [1]
        for total in range(1, 25):
            ways.append(sum(ways[max(0, total - most):]))
        return ways

    def test_counted(self):
        for most in range(1, 6):
            code = POWERS[:most]
            for many, ways in enumerate(self.sums(most)):
                self.assert_same(count_parses(code, "a" * many), ways)
                self.assert_same(count_parses(code[::-1], "a" * many), ways)
        self.assertEqual(count_parses(POWERS, "a" * 24), 5976577)

    def test_counted_again_and_again(self):
        for _ in range(200):
            self.assertEqual(count_parses(POWERS, "a" * 24), 5976577)
            self.assertTrue(is_message(POWERS, "a" * 24))

    def test_first_and_last(self):
        total = count_parses(POWERS, "a" * 24)
        self.assert_same(nth_parse(POWERS, "a" * 24, 0), (0,) * 24)
        self.assert_same(nth_parse(POWERS, "a" * 24, 1), (0,) * 22 + (1,))
        self.assert_same(nth_parse(POWERS, "a" * 24, total - 1), (4, 4, 4, 4, 3))
        self.assert_same(index_of_parse(POWERS, (0,) * 24), 0)
        self.assert_same(index_of_parse(POWERS, (0,) * 22 + (1,)), 1)
        self.assert_same(index_of_parse(POWERS, (4, 4, 4, 4, 3)), total - 1)
        self.assert_error(BadValue, "name", "index", nth_parse, POWERS, "a" * 24, total)

    def test_there_and_back(self):
        numbers = random.Random(5)
        for code in (POWERS, POWERS[::-1], ("aaa", "b", "a", "aaaaa", "aa", "aaaa")):
            total = count_parses(code, "a" * 24)
            indexes = sorted(numbers.randrange(total) for _ in range(100))
            parses = [nth_parse(code, "a" * 24, index) for index in indexes]
            self.assertEqual(parses, sorted(parses))
            for index, parse in zip(indexes, parses):
                self.assertEqual(string_of(code, parse), "a" * 24)
                self.assert_same(index_of_parse(code, parse), index)

    def test_neighbours_in_order(self):
        total = count_parses(POWERS, "a" * 24)
        for begin in (0, 1000, 2999999, total - 50):
            parses = [nth_parse(POWERS, "a" * 24, index) for index in range(begin, begin + 50)]
            for parse, further in zip(parses, parses[1:]):
                self.assertLess(parse, further)

    def test_other_letters(self):
        code = ("a", "b", "c", "ab", "bc", "abc")
        self.assertEqual(count_parses(code, LONG), 4 ** 8)
        self.assert_same(nth_parse(code, LONG, 0), (0, 1, 2) * 8)
        self.assert_same(nth_parse(code, LONG, 4 ** 8 - 1), (5,) * 8)
        self.assert_same(common_boundaries(code, LONG), tuple(range(0, 25, 3)))
        self.assert_same(boundaries(code, LONG), tuple(range(25)))

    def test_boundaries(self):
        self.assert_same(boundaries(POWERS, "a" * 24), tuple(range(25)))
        self.assert_same(common_boundaries(POWERS, "a" * 24), (0, 24))
        code = ("aaaaa", "aaaa")
        self.assert_same(boundaries(code, "a" * 24), (0, 4, 5, 8, 9, 10, 12, 14, 15, 16, 19, 20, 24))
        self.assert_same(common_boundaries(code, "a" * 24), (0, 24))
        self.assert_same(common_boundaries(("ab",), "ab" * 12), tuple(range(0, 25, 2)))


class AtAPlace(CodeCase):
    """Point 11."""

    def test_the_product_of_both_parts(self):
        for code, string, parses in samples():
            for place in range(len(string) + 1):
                there = [parse for parse in parses if place in places_of(code, parse)]
                product = count_parses(code, string[:place]) * count_parses(code, string[place:])
                self.assertEqual(product, len(there))
                self.assertEqual(place in boundaries(code, string), product > 0)
                if parses:
                    common = place in common_boundaries(code, string)
                    self.assertEqual(common, product == count_parses(code, string))

    def test_of_long_strings(self):
        string = "a" * 24
        for place in range(25):
            product = count_parses(POWERS, string[:place]) * count_parses(POWERS, string[place:])
            self.assertEqual(product == count_parses(POWERS, string), place in common_boundaries(POWERS, string))

    def test_messages_one_behind_the_other(self):
        for code in CODES:
            messages = [string for string in strings_up_to(4) if is_message(code, string)]
            for first in messages:
                for second in messages:
                    self.assertTrue(is_message(code, first + second))

    def test_first_and_last_place_are_boundaries(self):
        for code, string, parses in samples():
            if parses:
                self.assertEqual(boundaries(code, string)[0], 0)
                self.assertEqual(boundaries(code, string)[-1], len(string))
                self.assertEqual(common_boundaries(code, string)[0], 0)
                self.assertEqual(common_boundaries(code, string)[-1], len(string))


if __name__ == "__main__":
    unittest.main()
