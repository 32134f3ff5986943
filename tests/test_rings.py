"""Points 30 to 38 and 40: cuts of rings, roots, rotations, and the necklaces of codes."""

import itertools
import random
import unittest

from syncedwords.errors import BadValue
from syncedwords.parses import is_message
from syncedwords.rings import count_cuts, count_necklaces, index_of_cut, is_cut, is_ring, least_rotation, nth_cut
from syncedwords.rings import offset, root, rotated, words_of_cut
from syncedwords.sync import is_synced
from syncedwords.unique import is_unique
from tests.families import chosen_codes, small_codes
from tests.oracle import CODES, CodeCase, all_cuts, make_words, strings_up_to

RINGS = strings_up_to(4)[1:] + ["aabba", "ababab", "aaaaaa", "abcabc", "cbcbcb", "aabbaab", "ccbcbcbc", "abbbabb"]
POWERS = ("a", "aa", "aaa", "aaaa", "aaaaa")
NO_TUPLES_OF_PLACES = (
    None, True, False, 0, 1, "", "0", b"", b"\0", [], [0], [0, 2], {0}, {0: 1}, range(1), 0.0, (), (None,), ("0",),
    (True,), (False,), (0.0,), ((0,),), ([0],), (0, (1,)), (0, None), (0, "1"), (0, 2.0), (False, 2), (0, True),
)


def turn(ring, many):
    return "".join(ring[(at + many) % len(ring)] for at in range(len(ring)))


def is_primitive(ring):
    return len({turn(ring, many) for many in range(len(ring))}) == len(ring)


def samples():
    """Each code with each ring, and with all of its cuts."""
    for code in CODES:
        for ring in RINGS:
            yield code, ring, all_cuts(code, ring)


class Rings(CodeCase):
    """Point 7."""

    def test_rings(self):
        for value in RINGS + ["a", "abc", "a" * 12, "abcabcabcabc"]:
            self.assert_same(is_ring(value), True)

    def test_what_is_no_ring(self):
        for value in ("", "a" * 13, "a" * 24, "d", "A", "ab ", "a\n", None, True, 1, 0, ("a",), ["a"], b"a", {"a"}, ()):
            self.assert_same(is_ring(value), False)


class Cuts(CodeCase):
    """Points 30 and 31."""

    def compare(self, code, ring, cuts):
        self.assert_same(count_cuts(code, ring), len(cuts))
        self.assert_same([nth_cut(code, ring, index) for index in range(len(cuts))], cuts)
        self.assert_same([index_of_cut(code, ring, cut) for cut in cuts], list(range(len(cuts))))
        self.assert_error(BadValue, "name", "index", nth_cut, code, ring, len(cuts))
        for cut in cuts:
            self.assert_same(is_cut(code, ring, cut), True)
            words = make_words(code, ring, cut)[1]
            self.assert_same(words_of_cut(code, ring, cut), tuple(code.index(word) for word in words))

    def test_all_cuts_in_the_order_of_tuples(self):
        for code, ring, cuts in samples():
            self.compare(code, ring, cuts)

    def test_of_chosen_codes(self):
        numbers = random.Random(20)
        for code in chosen_codes(120, 21, "ab", 4) + chosen_codes(80, 22):
            for _ in range(4):
                ring = "".join(numbers.choice(code) for _ in range(numbers.randrange(1, 4)))[:10]
                self.compare(code, ring, all_cuts(code, ring))

    def test_of_12_letters(self):
        for code, ring in (
            (POWERS, "a" * 12),
            (POWERS[::-1], "a" * 12),
            (("aaaaa", "aaaa", "aaa"), "a" * 12),
            (("a", "b", "c", "ab", "bc", "abc"), "abcabcabcabc"),
            (("ab", "ba"), "ab" * 6),
            (("aab", "aba", "baa", "a"), "aab" * 4),
            (("abcab", "cabca", "b", "ca"), "abcabcabcabc"),
        ):
            self.compare(code, ring, all_cuts(code, ring))

    def test_of_11_letters(self):
        for code, ring in ((POWERS, "a" * 11), (("a", "b", "ab", "ba", "aba"), "abaababaaba")):
            self.compare(code, ring, all_cuts(code, ring))

    def test_no_cut(self):
        for code, ring in (
            ((), "a"), ((), "a" * 12), (("a",), "b"), (("a",), "ab"), (("aa",), "aaa"), (("ab",), "aab"), (("aab",), "ab"),
            (("abcab",), "abca"), (("aa",), "a"), (("ab", "ba"), "aaabbb" * 2), (("aaaaa",), "a" * 12),
        ):
            self.compare(code, ring, [])
            self.assert_same(count_cuts(code, ring), 0)

    def test_one_cut(self):
        for code, ring, cut, words in (
            (("a",), "a", (0,), (0,)),
            (("ab",), "ab", (0,), (0,)),
            (("ab",), "ba", (1,), (0,)),
            (("a", "ab"), "aba", (0, 2), (1, 0)),
            (("a", "ab"), "baa", (1, 2), (0, 1)),
            (("a", "ab"), "aab", (0, 1), (0, 1)),
            (("abcab",), "bcaba", (4,), (0,)),
            (("c", "abb"), "bbca", (2, 3), (0, 1)),
            (("a", "b", "c"), "abcabcabcabc", tuple(range(12)), (0, 1, 2) * 4),
        ):
            self.compare(code, ring, [cut])
            self.assert_same(words_of_cut(code, ring, cut), words)

    def test_a_cut_of_a_single_place_at_each_place(self):
        for word in ("a", "ab", "abc", "aab", "abbb", "ccab", "aabab", "abcab", "bbbca"):
            for many in range(len(word)):
                ring = turn(word, many)
                place = (len(word) - many) % len(word)
                self.assert_same(is_cut((word,), ring, (place,)), True)
                self.assert_same(words_of_cut((word,), ring, (place,)), (0,))
                self.compare((word,), ring, [(place,)])
                self.compare(("ccc", word), ring, [(place,)])

    def test_of_one_word_with_itself(self):
        for many in range(1, 6):
            self.compare(("a" * many,), "a" * many, [(place,) for place in range(many)])

    def test_numbers_of_the_words_not_their_letters(self):
        self.assert_same(words_of_cut(("b", "a"), "ab", (0, 1)), (1, 0))
        self.assert_same(words_of_cut(("ba", "ab"), "abab", (0, 2)), (1, 1))
        self.assert_same(words_of_cut(("ba", "ab"), "abab", (1, 3)), (0, 0))
        self.assert_same(words_of_cut(("ab", "c", "a", "bc"), "bca", (0, 2)), (3, 2))
        self.assert_same(words_of_cut(("ab", "c", "a", "bc"), "bca", (1, 2)), (1, 0))

    def test_the_words_begin_at_the_first_place(self):
        for code, ring, cuts in samples():
            for cut in cuts:
                words = [code[number] for number in words_of_cut(code, ring, cut)]
                self.assertEqual("".join(words), turn(ring, cut[0]))


class NoCuts(CodeCase):
    """Points 30 and 39: what is no cut."""

    def assert_no_cut(self, code, ring, value):
        with self.subTest(code=code, ring=ring, value=value):
            self.assert_same(is_cut(code, ring, value), False)
            self.assert_same(index_of_cut(code, ring, value), None)
        self.assert_error(BadValue, "name", "cut", words_of_cut, code, ring, value)

    def test_other_kinds(self):
        for code, ring in ((("ab", "ba"), "abab"), (("a", "aa"), "aa"), (("a",), "a"), ((), "aaa")):
            for value in NO_TUPLES_OF_PLACES:
                self.assert_no_cut(code, ring, value)

    def test_true_and_false_are_no_places(self):
        self.assert_same(is_cut(("a", "b"), "ab", (0, 1)), True)
        for value in ((0, True), (False, 1), (False, True)):
            self.assert_no_cut(("a", "b"), "ab", value)

    def test_lists(self):
        for code, ring, cuts in samples():
            for cut in cuts[:3]:
                self.assert_no_cut(code, ring, list(cut))

    def test_places_that_are_none(self):
        for value in ((-1,), (4,), (0, 4), (0, 2, 4), (-2, 0), (-4, -2), (-4, 0), (2, 4), (2, 6), (100,), (2 ** 70,)):
            self.assert_no_cut(("ab", "ba", "abab"), "abab", value)

    def test_not_ascending(self):
        for value in ((2, 0), (0, 0), (0, 0, 2), (0, 2, 2), (3, 1), (0, 2, 0)):
            self.assert_no_cut(("ab", "ba", "abab"), "abab", value)
        for value in ((0, 0), (0, 0, 0)):
            self.assert_no_cut(("a",), "a", value)
            self.assert_no_cut(("a", "aa"), "a", value)

    def test_of_other_words(self):
        for value in ((0, 1), (0, 3), (1,), (0, 1, 2, 3), (1, 2), (0,)):
            self.assert_no_cut(("ab", "ba"), "abab", value)
        self.assert_no_cut(("ab", "ba"), "abaab", (0, 2))
        self.assert_no_cut(("ab",), "ab", (1,))
        self.assert_no_cut(("ba",), "ab", (0,))

    def test_each_tuple_of_places_that_is_none(self):
        for code in CODES:
            for ring in ("a", "ab", "aba", "abab", "aaba", "abcab"):
                cuts = all_cuts(code, ring)
                for many in range(len(ring) + 2):
                    for value in itertools.product(range(-1, len(ring) + 1), repeat=many if many < 4 else 3):
                        if value not in cuts:
                            self.assertIs(is_cut(code, ring, value), False)
                            self.assertIs(index_of_cut(code, ring, value), None)


class Rotated(CodeCase):
    """Point 32."""

    def test_letters(self):
        for ring in RINGS + ["abcabcabcabc", "aabbccabacbb"]:
            for many in range(len(ring)):
                self.assert_same(rotated(ring, many), turn(ring, many))
        self.assert_same(rotated("abc", 0), "abc")
        self.assert_same(rotated("abc", 1), "bca")
        self.assert_same(rotated("abc", 2), "cab")

    def test_cuts_are_rotated(self):
        for code, ring, cuts in samples():
            for many in range(len(ring)):
                turned = sorted(tuple(sorted((place - many) % len(ring) for place in cut)) for cut in cuts)
                other = rotated(ring, many)
                self.assertEqual(count_cuts(code, other), len(cuts))
                self.assertEqual([nth_cut(code, other, index) for index in range(len(cuts))], turned)


class Shared(CodeCase):
    """Point 33."""

    def shares_a_place(self, code, rings):
        for ring in rings:
            cuts = [nth_cut(code, ring, index) for index in range(count_cuts(code, ring))]
            for first, second in itertools.combinations(cuts, 2):
                if set(first) & set(second):
                    return True
        return False

    def test_cuts_that_share_a_place(self):
        rings = strings_up_to(7, "ab")[1:]
        for code in small_codes()[::2]:
            if is_unique(code):
                self.assertFalse(self.shares_a_place(code, rings))
                for ring in rings:
                    self.assertLessEqual(count_cuts(code, ring), max([0] + [len(word) for word in code]))
            else:
                self.assertTrue(self.shares_a_place(code, rings))

    def test_messages_are_rings_with_the_place_0(self):
        for code, ring, cuts in samples():
            self.assertEqual(is_message(code, ring), any(cut[0] == 0 for cut in cuts))


class Roots(CodeCase):
    """Point 34."""

    def test_by_all_parts(self):
        for ring in RINGS + ["abcabcabcabc", "abababababab", "aabaabaabaab", "aaaaaaaaaaab", "abcabcabcab"]:
            powers = [
                ring[:many] for many in range(1, len(ring) + 1)
                if ring == "".join([ring[:many]] * (len(ring) // many))
            ]
            part = min(powers, key=len)
            self.assert_same(root(ring), (part, len(ring) // len(part)))
            self.assertEqual(root(ring)[1] == 1, is_primitive(ring))
            for power in powers:
                self.assertEqual(root(power)[0], part)

    def test_powers(self):
        for part in ("a", "ab", "ba", "abc", "aab", "aabb", "abcab"):
            for many in range(1, 12 // len(part) + 1):
                self.assert_same(root(part * many), (part, many))

    def test_cases(self):
        for ring, expected in (
            ("a", ("a", 1)), ("aa", ("a", 2)), ("a" * 12, ("a", 12)), ("a" * 11, ("a", 11)), ("ab" * 6, ("ab", 6)),
            ("abcabcabcabc", ("abc", 4)), ("aabaab", ("aab", 2)), ("aabaaa", ("aabaaa", 1)), ("abcabcabca", ("abcabcabca", 1)),
            ("aabbaabbaabb", ("aabb", 3)), ("abaaba", ("aba", 2)), ("aabcaaabcaab", ("aabcaaabcaab", 1)),
        ):
            self.assert_same(root(ring), expected)


class LeastRotations(CodeCase):
    """Point 35."""

    RINGS = RINGS + ["abcabcabcabc", "cbacbacbacba", "bababababa", "bbabbabba", "aaaaaaaaaaaa", "baaaaaaaaaaa", "cbbcbbcba"]

    def test_by_all_rotations(self):
        for ring in self.RINGS:
            turns = [turn(ring, many) for many in range(len(ring))]
            self.assert_same(least_rotation(ring), (min(turns), turns.index(min(turns))))

    def test_the_least_offset_of_powers(self):
        for ring, expected in (
            ("aa", ("aa", 0)), ("baba", ("abab", 1)), ("abab", ("abab", 0)), ("bcabca", ("abcabc", 2)),
            ("a" * 12, ("a" * 12, 0)), ("cbcbcb", ("bcbcbc", 1)), ("bab", ("abb", 1)), ("bba", ("abb", 2)),
        ):
            self.assert_same(least_rotation(ring), expected)

    def test_offsets(self):
        for ring in self.RINGS:
            turns = [turn(ring, many) for many in range(len(ring))]
            for other in turns:
                self.assert_same(offset(ring, other), turns.index(other))

    def test_no_rotations(self):
        for first in strings_up_to(4, "ab")[1:]:
            for second in strings_up_to(4, "ab")[1:]:
                turns = [turn(first, many) for many in range(len(first))]
                expected = turns.index(second) if second in turns else None
                self.assert_same(offset(first, second), expected)
                same = least_rotation(first)[0] == least_rotation(second)[0]
                self.assertEqual(same, expected is not None)

    def test_offset_none(self):
        for first, second in (
            ("a", "b"), ("a", "aa"), ("aa", "a"), ("ab", "aa"), ("ab", "abab"), ("abab", "ab"), ("aab", "bba"),
            ("abc", "acb"), ("abcabc", "abcacb"), ("a" * 12, "a" * 11),
        ):
            self.assert_same(offset(first, second), None)

    def test_offset_is_from_the_first_to_the_second(self):
        self.assert_same(offset("abc", "bca"), 1)
        self.assert_same(offset("abc", "cab"), 2)
        self.assert_same(offset("abcabc", "cabcab"), 2)
        self.assert_same(offset("abab", "baba"), 1)
        self.assert_same(offset("abab", "abab"), 0)


class Necklaces(CodeCase):
    """Points 36 and 37."""

    def listed(self, code, many, letters="abc"):
        """The number of sets of rotations of primitive rings that have a cut."""
        sets = {
            frozenset(turn(ring, turns) for turns in range(many))
            for ring in map("".join, itertools.product(letters, repeat=many)) if is_primitive(ring)
        }
        return sum(1 for rings in sets if any(all_cuts(code, ring) for ring in rings))

    def test_against_all_rings(self):
        for code in CODES + (("a", "ba", "bba"), ("aab", "ab"), ("abc", "abb", "cc")):
            for many in range(1, 5):
                self.assert_same(count_necklaces(code, many), self.listed(code, many))

    def test_of_5_to_7_letters(self):
        for code in ((), ("a",), ("ab", "ba"), ("a", "ab"), ("a", "ba", "bb"), ("aab", "abb", "b"), POWERS):
            for many in (5, 6, 7):
                self.assert_same(count_necklaces(code, many), self.listed(code, many, "ab"))

    def test_all_of_three_letters(self):
        expected = (3, 3, 8, 18, 48, 116, 312)
        for code in (("a", "b", "c"), ("b", "abc", "c", "a", "ab")):
            self.assert_same(tuple(count_necklaces(code, many) for many in range(1, 8)), expected)

    def test_of_few_words(self):
        for many in range(1, 8):
            self.assert_same(count_necklaces((), many), 0)
            self.assert_same(count_necklaces(("a",), many), 1 if many == 1 else 0)
            self.assert_same(count_necklaces(("abb",), many), 1 if many == 3 else 0)
            self.assert_same(count_necklaces(("aa",), many), 0)
            self.assert_same(count_necklaces(POWERS, many), 1 if many == 1 else 0)

    def test_of_self_synchronizing_codes(self):
        """There are as many as primitive necklaces of words with so many letters together."""
        seen = 0
        for code in small_codes()[::3] + chosen_codes(60, 30, "abc", 4):
            if is_synced(code):
                seen += 1
                for many in range(1, 8):
                    self.assert_same(count_necklaces(code, many), len(self.word_necklaces(code, many)))
        self.assertGreater(seen, 30)

    def word_necklaces(self, code, many):
        parses = [((), 0)]
        found = set()
        while parses:
            parse, letters = parses.pop()
            if letters == many:
                turns = {parse[at:] + parse[:at] for at in range(len(parse))}
                if len(turns) == len(parse):
                    found.add(min(turns))
            for number, word in enumerate(code):
                if letters + len(word) <= many:
                    parses.append((parse + (number,), letters + len(word)))
        return found

    def test_rings_of_self_synchronizing_codes_have_at_most_one_cut(self):
        for code in small_codes()[::2]:
            many = max(count_cuts(code, ring) for ring in strings_up_to(6, "ab")[1:])
            if is_synced(code):
                self.assertLessEqual(many, 1)
            else:
                self.assertGreater(many, 1)


class Exponents(CodeCase):
    """Point 38."""

    def test_of_rings_with_one_cut(self):
        seen = 0
        for code, ring, cuts in samples():
            if len(cuts) == 1:
                seen += 1
                words = make_words(code, ring, cuts[0])[1]
                exponent = max(
                    len(words) // many for many in range(1, len(words) + 1)
                    if len(words) % many == 0 and words[:many] * (len(words) // many) == words
                )
                self.assertEqual(root(ring)[1], exponent)
        self.assertGreater(seen, 50)


class Example(CodeCase):
    """Point 40."""

    def test_both_rings(self):
        code = ("ab", "ba")
        self.assert_same([nth_cut(code, "abab", index) for index in range(2)], [(0, 2), (1, 3)])
        self.assert_same(count_cuts(code, "abab"), 2)
        self.assert_same(words_of_cut(code, "abab", (1, 3)), (1, 1))
        self.assert_same([nth_cut(("aa",), "aa", index) for index in range(2)], [(0,), (1,)])
        self.assert_same(count_cuts(("aa",), "aa"), 2)


if __name__ == "__main__":
    unittest.main()
