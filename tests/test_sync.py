"""Points 41 to 44 and 48 to 50: the states of codes, synchronization delays, and the longest unsynchronized string."""

import itertools
import unittest

from syncedwords.made import backwards, renamed
from syncedwords.sync import delay, is_synced, longest_unsynced, states
from syncedwords.unique import is_unique
from tests.families import FIVE, PERIODIC, chosen_codes, small_codes
from tests.oracle import CODES, LATE, CodeCase, all_states, pair_ranks, strings_up_to, ways_of


def stands_unsynced(code, string):
    """Tell whether the string stands in messages in two ways without a place that is a boundary in both."""
    ways = ways_of(code, string)
    return any(not first & second for first in ways for second in ways)


def listed_delay(code, most, letters="ab"):
    """The delay by its definition, or None if it is not found up to so many letters."""
    for many in range(most + 1):
        strings = ["".join(row) for row in itertools.product(letters, repeat=many)]
        if not any(stands_unsynced(code, string) for string in strings):
            return many
    return None


class States(CodeCase):
    """Point 41."""

    def test_word_by_word(self):
        self.assert_same(states(()), [None])
        self.assert_same(states(("a",)), [None])
        self.assert_same(states(("a", "b", "c")), [None])
        self.assert_same(states(("ab",)), [None, (0, 1)])
        self.assert_same(states(("a", "ab")), [None, (1, 1)])
        self.assert_same(states(("abc", "a", "bbca")), [None, (0, 1), (0, 2), (2, 1), (2, 2), (2, 3)])
        self.assert_same(states(("abcab",)), [None, (0, 1), (0, 2), (0, 3), (0, 4)])

    def test_of_all_codes(self):
        for code in CODES + tuple(small_codes()) + (FIVE,):
            self.assert_same(states(code), all_states(code))
        self.assertEqual(len(states(FIVE)), 25)

    def test_a_new_list_each_time(self):
        for code in CODES:
            first = states(code)
            second = states(code)
            self.assertIsNot(first, second)
            first.clear()
            second.append((9, 9))
            self.assert_same(states(code), all_states(code))


class ByDefinition(CodeCase):
    """Points 42 and 44: the delay against all strings of so many letters."""

    MOST = 6

    def compare(self, code):
        expected = listed_delay(code, self.MOST)
        found = delay(code)
        if found is not None and found > self.MOST:
            self.assertIsNone(expected)
        else:
            self.assert_same(found, expected)

    def test_small_codes(self):
        for code in small_codes():
            self.compare(code)

    def test_chosen_codes(self):
        for code in chosen_codes(150, 40, "ab", 3, 4):
            self.compare(code)

    def test_of_three_letters(self):
        for code in chosen_codes(60, 41, "abc", 2, 4):
            found = delay(code)
            expected = listed_delay(code, 4, "abc")
            self.assertEqual(found if found is None or found <= 4 else None, expected)

    def test_a_greater_delay_by_its_last_letters(self):
        code = ("a", "ba", "bba", "bbba", "abbba")
        for one in chosen_codes(400, 42, "ab", 4, 4) + [code]:
            found = delay(one)
            if found is not None and 6 < found <= 10:
                rows = ["".join(row) for row in itertools.product("ab", repeat=found - 1)]
                self.assertTrue(any(stands_unsynced(one, row) for row in rows))
                if found <= 8:
                    rows = ["".join(row) for row in itertools.product("ab", repeat=found)]
                    self.assertFalse(any(stands_unsynced(one, row) for row in rows))


class ByPairs(CodeCase):
    """Points 43 and 44: the delay as the greatest rank."""

    def test_all_families(self):
        for code in list(CODES) + small_codes()[::2] + chosen_codes(80, 43, "ab", 4) + chosen_codes(60, 44):
            ranks = pair_ranks(code)
            if None in ranks.values():
                self.assert_same(delay(code), None)
            else:
                self.assert_same(delay(code), max(ranks.values(), default=0))

    def test_a_long_delay(self):
        self.assert_same(delay(LATE), 32)
        self.assertEqual(max(pair_ranks(LATE).values()), 32)
        self.assert_same(delay(("ba", "babb", "abaab", "bbaba", "aaaba")), 17)


class Cases(CodeCase):
    def test_no_delay_though_uniquely_decodable(self):
        for code in (("ab", "ba"), ("aa",), ("a" * 5,), ("abab",), ("aa", "b"), ("aab", "aba"), PERIODIC, ("aa", "ab", "ba", "bb")):
            self.assert_same(is_unique(code), True)
            self.assert_same(delay(code), None)
            self.assert_same(is_synced(code), False)
            self.assert_same(longest_unsynced(code), None)

    def test_a_delay_though_not_uniquely_decodable(self):
        for code, expected in (
            (("a", "b", "ab"), 1), (("ab", "b", "a"), 1), (("a", "b", "c", "abc"), 2), (("a", "b", "abb"), 2),
        ):
            self.assert_same(is_unique(code), False)
            self.assert_same(listed_delay(code, 5, "abc"), expected)
            self.assert_same(delay(code), expected)
            self.assert_same(is_synced(code), False)

    def test_neither(self):
        for code in (("aa", "aaa"), ("aaaa", "aa"), ("ab", "ba", "abba")):
            self.assert_same(is_unique(code), False)
            self.assert_same(delay(code), listed_delay(code, 6))
            self.assert_same(delay(code), None)
            self.assert_same(is_synced(code), False)

    def test_the_code_without_words(self):
        self.assert_same(delay(()), 0)
        self.assert_same(is_synced(()), True)
        self.assert_same(longest_unsynced(()), None)

    def test_words_of_one_letter(self):
        for code in (("a",), ("b",), ("a", "b"), ("c", "a"), ("c", "b", "a")):
            self.assert_same(delay(code), 0)
            self.assert_same(is_synced(code), True)
            self.assert_same(longest_unsynced(code), None)

    def test_one_word(self):
        for word, expected in (("ab", 1), ("abc", 2), ("aab", 2), ("aabab", 4), ("aa", None), ("abab", None), ("ababa", 4)):
            self.assert_same(listed_delay((word,), 6, "abc"), expected)
            self.assert_same(delay((word,)), expected)

    def test_delays(self):
        for code, expected in ((("a", "ab"), 1), (("a", "ab", "abb"), 2), (("ab", "a"), 1), (("a", "ba", "bba", "bbba"), 3)):
            self.assert_same(delay(code), expected)
            self.assert_same(is_synced(code), True)

    def test_synced_if_unique_with_a_delay(self):
        for code in small_codes() + chosen_codes(200, 45):
            self.assert_same(is_synced(code), is_unique(code) and delay(code) is not None)

    def test_the_delay_is_0_only_for_words_of_one_letter(self):
        for code in small_codes() + chosen_codes(200, 46, "abc", 2):
            self.assertEqual(delay(code) == 0, all(len(word) == 1 for word in code))


class Longest(CodeCase):
    """Point 49."""

    def listed(self, code, most, letters="ab"):
        """The first string with the most letters, among all of at most so many."""
        unsynced = [string for string in strings_up_to(most, letters) if stands_unsynced(code, string)]
        most = max(len(string) for string in unsynced)
        return min(string for string in unsynced if len(string) == most)

    def test_against_all_strings(self):
        for code in small_codes() + chosen_codes(150, 47, "ab", 3, 4):
            found = delay(code)
            if found is None or found == 0:
                self.assert_same(longest_unsynced(code), None)
            elif found <= 6:
                self.assert_same(longest_unsynced(code), self.listed(code, found))

    def test_of_three_letters(self):
        for code in chosen_codes(100, 48, "abc", 3, 4):
            found = delay(code)
            if found is not None and 0 < found <= 4:
                self.assert_same(longest_unsynced(code), self.listed(code, found, "abc"))

    def test_long_ones(self):
        for code in chosen_codes(200, 49) + [LATE]:
            found = delay(code)
            if found is not None and found > 0:
                string = longest_unsynced(code)
                self.assertEqual(len(string), found - 1)
                self.assertTrue(stands_unsynced(code, string))
                for at, letter in enumerate(string):
                    for lesser in "abc"["abc".index(letter) - 1::-1] if letter != "a" else "":
                        self.assertFalse(self.goes_on(code, string[:at] + lesser, len(string)))

    def goes_on(self, code, string, many):
        """Tell whether some string of so many letters that begins so stands unsynchronized."""
        if not stands_unsynced(code, string):
            return False
        if len(string) == many:
            return True
        return any(self.goes_on(code, string + letter, many) for letter in "abc")

    def test_cases(self):
        for code, expected in (
            (("a", "ab"), ""), (("a", "ab", "abb"), "b"), (("ab",), ""), (("abc",), "b"), (("a", "ba", "bba", "bbba"), "bb"),
        ):
            self.assert_same(longest_unsynced(code), expected)


class Stays(CodeCase):
    """Point 50."""

    def codes(self):
        return [code for code in small_codes() + chosen_codes(80, 50, "abc", 4, 5) if is_synced(code)]

    def test_words_taken_away(self):
        for code in self.codes():
            for at in range(len(code)):
                fewer = code[:at] + code[at + 1:]
                self.assert_same(is_synced(fewer), True)
                self.assertLessEqual(delay(fewer), delay(code))

    def test_no_word_is_longer_than_the_delay_and_one(self):
        for code in self.codes():
            self.assertLessEqual(max([len(word) for word in code], default=0), delay(code) + 1)

    def test_read_from_the_end(self):
        for code in small_codes() + chosen_codes(100, 51):
            self.assert_same(is_synced(backwards(code)), is_synced(code))
            self.assert_same(delay(backwards(code)), delay(code))

    def test_in_another_sequence(self):
        for code in chosen_codes(60, 52, "abc", 4, 4):
            for words in itertools.permutations(code):
                self.assert_same(is_synced(words), is_synced(code))
                self.assert_same(delay(words), delay(code))
                self.assert_same(longest_unsynced(words), longest_unsynced(code))

    def test_letters_exchanged(self):
        for code in chosen_codes(60, 53, "abc", 4):
            for order in itertools.permutations("abc"):
                changed = renamed(code, "".join(order))
                self.assert_same(is_synced(changed), is_synced(code))
                self.assert_same(delay(changed), delay(code))


class Rule(CodeCase):
    """Point 48: behind as many letters as the delay a boundary is certain, and behind fewer not always."""

    def test_certain_boundaries(self):
        for code in small_codes():
            if not is_synced(code):
                continue
            many = delay(code)
            if many <= 6:
                for string in strings_up_to(many, "ab"):
                    ways = list(ways_of(code, string))
                    if ways and len(string) == many:
                        self.assertTrue(ways[0].intersection(*ways))


class Example(CodeCase):
    """Point 52."""

    def test_both_codes(self):
        self.assert_same(delay(("a", "ab")), 1)
        self.assert_same(delay(("ab", "ba")), None)


if __name__ == "__main__":
    unittest.main()
