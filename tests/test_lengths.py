"""Points 76 to 83 and 85: necklaces, word necklaces, lengths that fail, more words, and Kraft sums."""

import itertools
import random
import unittest
from fractions import Fraction

from syncedwords.lengths import extended, first_failing, kraft_sum, more_words, necklaces, word_necklaces
from syncedwords.sync import is_synced
from tests.families import chosen_codes, small_codes
from tests.oracle import CodeCase, strings_up_to

# By hand, from lists of necklaces: of 1 to 12 letters, with two letters and with three.
OF_TWO = (2, 1, 2, 3, 6, 9, 18, 30, 56, 99, 186, 335)
OF_THREE = (3, 3, 8, 18, 48, 116, 312, 810, 2184, 5880, 16104, 44220)


def turnings(row):
    return [row[at:] + row[:at] for at in range(len(row))]


def is_primitive(row):
    return len(set(turnings(row))) == len(row)


def listed_necklaces(size, length):
    rows = itertools.product("abc"[:size], repeat=length)
    return sum(1 for row in rows if is_primitive(row) and min(turnings(row)) == row)


def sequences(counts, length):
    """All sequences of words with so many letters together, the words told by their length and a number."""
    if length == 0:
        return [()]
    return [
        ((many, number),) + rest
        for many, count in enumerate(counts, start=1) if many <= length
        for number in range(count)
        for rest in sequences(counts, length - many)
    ]


def listed_word_necklaces(counts, length):
    return sum(1 for row in sequences(counts, length) if is_primitive(row) and min(turnings(row)) == row)


def listed_failing(size, counts, most):
    for length in range(1, most + 1):
        if listed_word_necklaces(counts, length) > listed_necklaces(size, length):
            return length
    return None


def small_counts(lengths, most):
    return [row for many in range(lengths + 1) for row in itertools.product(range(most + 1), repeat=many)]


def fitting_counts(many, seed):
    """Counts of which no length fails, and such with one word too many, with the size: always the same ones."""
    numbers = random.Random(seed)
    found = []
    for _ in range(many):
        size = numbers.randrange(1, 4)
        counts = ()
        for length in range(1, numbers.randrange(1, 9)):
            room = more_words(size, counts, length)
            counts += (numbers.choice((0, 1, room // 2, room, room)) if room else 0,)
            if first_failing(size, counts) is not None:
                counts = counts[:-1] + (0,)
        found.append((size, counts))
    return found


class Necklaces(CodeCase):
    """Point 77."""

    def test_against_a_listing(self):
        for size, most in ((1, 12), (2, 11), (3, 7)):
            for length in range(1, most + 1):
                self.assert_same(necklaces(size, length), listed_necklaces(size, length))

    def test_up_to_12_letters(self):
        self.assert_same(tuple(necklaces(1, length) for length in range(1, 13)), (1,) + (0,) * 11)
        self.assert_same(tuple(necklaces(2, length) for length in range(1, 13)), OF_TWO)
        self.assert_same(tuple(necklaces(3, length) for length in range(1, 13)), OF_THREE)

    def test_all_rings_are_powers_of_primitive_ones(self):
        for size in (1, 2, 3):
            for length in range(1, 13):
                divisors = [many for many in range(1, length + 1) if length % many == 0]
                self.assertEqual(sum(many * necklaces(size, many) for many in divisors), size ** length)


class WordNecklaces(CodeCase):
    """Point 78."""

    def test_against_a_listing(self):
        for counts in small_counts(3, 2):
            for length in range(1, 7):
                self.assert_same(word_necklaces(counts, length), listed_word_necklaces(counts, length))

    def test_of_more_lengths(self):
        for counts in ((1, 1, 1, 1), (0, 1, 0, 2, 1), (0, 0, 0, 0, 0, 0, 0, 1), (2, 0, 0, 1), (0, 0, 3), (1, 0, 0, 0, 0, 1), (0, 2, 0, 0, 1, 3)):
            for length in range(1, 9):
                self.assert_same(word_necklaces(counts, length), listed_word_necklaces(counts, length))

    def test_words_of_one_letter_are_letters(self):
        for length in range(1, 13):
            for size in (1, 2, 3):
                self.assert_same(word_necklaces((size,), length), necklaces(size, length))
                self.assert_same(word_necklaces((size, 0, 0), length), necklaces(size, length))

    def test_without_words(self):
        for counts in ((), (0,), (0,) * 8):
            for length in range(1, 13):
                self.assert_same(word_necklaces(counts, length), 0)

    def test_cases(self):
        for counts, length, expected in (
            ((1, 1), 6, 2), ((1, 1), 12, 25), ((0, 1), 2, 1), ((0, 1), 4, 0), ((0, 2), 4, 1), ((0, 0, 1), 3, 1), ((0, 0, 1), 6, 0),
            ((1000,), 1, 1000), ((1000,), 2, 499500), ((0,) * 7 + (1000,), 8, 1000), ((0,) * 7 + (1000,), 9, 0),
            ((1,) + (0,) * 6 + (1000,), 9, 1000), ((1,) + (0,) * 6 + (1000,), 12, 1000), ((0, 0, 0, 1000), 12, 333333000),
        ):
            self.assert_same(word_necklaces(counts, length), expected)

    def test_words_of_the_length_are_added(self):
        for counts in small_counts(3, 2) + [(1, 2, 3, 4, 5, 6, 7, 8)]:
            for length in range(1, len(counts) + 1):
                more = counts[:length - 1] + (counts[length - 1] + 5,) + counts[length:]
                self.assertEqual(word_necklaces(more, length), word_necklaces(counts, length) + 5)


class Failing(CodeCase):
    """Points 79 and 80."""

    def test_against_a_listing(self):
        for size in (1, 2, 3):
            for counts in small_counts(3, 3):
                self.assert_same(first_failing(size, counts), listed_failing(size, counts, len(counts)))

    def test_of_more_lengths(self):
        for size, counts in fitting_counts(60, 100):
            self.assert_same(first_failing(size, counts), None)
            for length in range(1, len(counts) + 1):
                more = counts[:length - 1] + (counts[length - 1] + 1,) + counts[length:]
                expected = [
                    many for many in range(1, len(counts) + 1) if word_necklaces(more, many) > necklaces(size, many)
                ]
                self.assert_same(first_failing(size, more), min(expected, default=None))

    def test_cases(self):
        for size, counts, expected in (
            (2, (), None), (2, (1, 1), None), (2, (0, 2), 2), (1, (0, 1), 2), (2, (2, 1), 2), (2, (2,), None), (2, (3,), 1),
            (3, (3,), None), (3, (4,), 1), (3, (1000,) * 8, 1), (1, (1,), None), (1, (1, 0, 0, 0), None), (1, (2,), 1),
            (1, (1, 0, 0, 1), 4), (2, (1, 1, 1, 1, 1, 1, 1, 1), None), (2, (1, 1, 2), 3), (2, (0, 0, 2, 4), 4),
            (2, (0, 1, 2), None), (2, (0, 1, 2, 3), None), (2, (0, 0, 0, 0, 0, 0, 0, 31), 8), (2, (0, 0, 0, 0, 0, 0, 0, 30), None),
            (2, (0, 0, 2, 3, 0, 8), None), (2, (0, 0, 2, 3, 0, 9), 6),
        ):
            with self.subTest(size=size, counts=counts):
                self.assert_same(first_failing(size, counts), expected)

    def test_no_greater_length_fails(self):
        for size, counts in [(size, counts) for size in (1, 2, 3) for counts in small_counts(3, 2)] + fitting_counts(60, 101):
            if first_failing(size, counts) is None:
                for length in range(1, 13):
                    self.assertLessEqual(word_necklaces(counts, length), necklaces(size, length))

    def test_there_is_such_a_code(self):
        """Of two letters and up to three lengths: a self-synchronizing code with the counts is there, or is not."""
        words = {length: [word for word in strings_up_to(3, "ab") if len(word) == length] for length in (1, 2, 3)}
        for counts in small_counts(3, 2):
            rows = itertools.product(*[
                itertools.combinations(words[length], count) for length, count in enumerate(counts, start=1)
            ])
            there = any(is_synced(tuple(word for row in choice for word in row)) for choice in rows)
            self.assertEqual(there, first_failing(2, counts) is None)

    def test_of_self_synchronizing_codes(self):
        for code in small_codes() + chosen_codes(300, 102, "ab", 4) + chosen_codes(300, 103):
            if is_synced(code):
                size = 2 if set("".join(code)) <= set("ab") else 3
                counts = tuple(sum(1 for word in code if len(word) == length) for length in range(1, 6))
                self.assert_same(first_failing(size, counts), None)

    def test_fewer_words_and_more_letters(self):
        for counts in small_counts(3, 2):
            for size in (1, 2):
                if first_failing(size, counts) is None:
                    self.assert_same(first_failing(size + 1, counts), None)
            for size in (1, 2, 3):
                if first_failing(size, counts) is None:
                    for at in range(len(counts)):
                        if counts[at]:
                            self.assert_same(first_failing(size, counts[:at] + (counts[at] - 1,) + counts[at + 1:]), None)

    def test_zeros_at_the_end(self):
        for size in (1, 2, 3):
            for counts in small_counts(3, 2):
                for many in range(1, 6):
                    longer = counts + (0,) * many
                    self.assert_same(first_failing(size, longer), first_failing(size, counts))
                    self.assert_same(kraft_sum(size, longer), kraft_sum(size, counts))
                    self.assert_same(more_words(size, longer, 2), more_words(size, counts, 2))
                    for length in range(1, 13):
                        self.assertEqual(word_necklaces(longer, length), word_necklaces(counts, length))


class MoreWords(CodeCase):
    """Point 81."""

    def fails(self, size, counts):
        return any(word_necklaces(counts, length) > necklaces(size, length) for length in range(1, len(counts) + 1))

    def with_more(self, counts, length, more):
        longer = list(counts) + [0] * (length - len(counts))
        longer[length - 1] += more
        return tuple(longer)

    def test_one_more_word_fails(self):
        for size, counts in [(size, counts) for size in (1, 2, 3) for counts in small_counts(3, 2)] + fitting_counts(80, 104):
            for length in range(1, 9):
                found = more_words(size, counts, length)
                if self.fails(size, counts):
                    self.assert_same(found, None)
                else:
                    self.assertIs(type(found), int)
                    self.assertGreaterEqual(found, 0)
                    self.assertFalse(self.fails(size, self.with_more(counts, length, found)))
                    self.assertTrue(self.fails(size, self.with_more(counts, length, found + 1)))

    def test_of_9_to_12_letters(self):
        for size, counts in fitting_counts(60, 105):
            for length in range(9, 13):
                self.assert_same(more_words(size, counts, length), necklaces(size, length) - word_necklaces(counts, length))

    def test_cases(self):
        for size, counts, length, expected in (
            (2, (1, 1), 3, 1), (2, (1, 1), 4, 2), (2, (0, 1), 1, 1), (2, (2, 1), 3, None), (2, (), 1, 2), (2, (), 12, 335),
            (3, (), 12, 44220), (1, (), 12, 0), (2, (2,), 12, 0), (2, (2,), 1, 0), (3, (2,), 1, 1), (2, (0, 0, 2), 1, 1),
            (2, (0, 0, 2), 2, 1), (2, (0, 0, 1), 1, 1), (3, (0, 0, 8), 1, 1), (2, (0, 1, 2), 1, 0), (3, (0, 0, 8), 2, 3), (3, (0, 0, 0), 1, 3),
            (2, (1, 1, 1, 1), 2, 0), (1, (1,), 2, 0), (1, (0, 0, 0), 1, 1), (2, (3,), 1, None), (1, (0, 1), 12, None),
        ):
            with self.subTest(size=size, counts=counts, length=length):
                self.assert_same(more_words(size, counts, length), expected)


class Extended(CodeCase):
    """Point 82."""

    def test_length_by_length(self):
        for size, counts in [(size, counts) for size in (1, 2, 3) for counts in small_counts(2, 2)] + fitting_counts(60, 106):
            for most in range(len(counts), 13):
                found = extended(size, counts, most)
                if first_failing(size, counts) is not None:
                    self.assert_same(found, None)
                    continue
                self.assertIs(type(found), tuple)
                self.assertEqual(len(found), most)
                self.assertEqual(found[:len(counts)], counts)
                for length in range(len(counts) + 1, most + 1):
                    if length <= 9 and max(found[:length - 1], default=0) <= 1000:
                        self.assertEqual(found[length - 1], more_words(size, found[:length - 1], length))

    def test_as_many_word_necklaces_as_necklaces(self):
        for size, counts in fitting_counts(60, 107):
            for length in range(len(counts) + 1, 9):
                found = extended(size, counts, length)
                self.assertEqual(word_necklaces(found, length), necklaces(size, length))

    def test_to_as_many_lengths_as_there_are(self):
        for size, counts in fitting_counts(60, 108) + [(1, ()), (2, ()), (3, (0,) * 8), (2, (1, 1, 1))]:
            self.assert_same(extended(size, counts, len(counts)), counts)

    def test_cases(self):
        for size, counts, most, expected in (
            (2, (), 3, (2, 0, 0)), (2, (1,), 4, (1, 1, 1, 1)), (2, (0,), 3, (0, 1, 2)), (3, (2,), 4, (2, 2, 2, 2)),
            (2, (1,), 12, (1,) * 12), (1, (), 12, (1,) + (0,) * 11), (1, (0,), 5, (0,) * 5), (2, (), 0, ()), (2, (2, 1), 2, None),
            (2, (2, 1), 12, None), (2, (0, 2), 12, None), (3, (0,), 3, (0, 3, 8)), (3, (1,), 4, (1, 3, 5, 7)), (3, (0, 1), 3, (0, 1, 8)),
        ):
            with self.subTest(size=size, counts=counts, most=most):
                self.assert_same(extended(size, counts, most), expected)


class KraftSums(CodeCase):
    """Point 83."""

    def test_as_fractions(self):
        for size, counts in [(size, counts) for size in (1, 2, 3) for counts in small_counts(3, 3)] + fitting_counts(60, 109):
            expected = sum(Fraction(count, size ** length) for length, count in enumerate(counts, start=1)) + Fraction(0)
            self.assert_same(kraft_sum(size, counts), (expected.numerator, expected.denominator))

    def test_of_codes_at_most_1(self):
        for size, counts in fitting_counts(100, 110):
            self.assertLessEqual(Fraction(*kraft_sum(size, counts)), 1)

    def test_cases(self):
        for size, counts, expected in (
            (2, (1, 1), (3, 4)), (2, (2, 1), (5, 4)), (3, (), (0, 1)), (3, (0, 0), (0, 1)), (1, (), (0, 1)), (1, (0,) * 8, (0, 1)),
            (2, (2,), (1, 1)), (3, (3,), (1, 1)), (3, (1, 3), (2, 3)), (2, (0, 2), (1, 2)), (1, (2, 3), (5, 1)),
            (3, (1000,) * 8, (3280000, 6561)), (2, (0, 0, 0, 0, 0, 0, 0, 1), (1, 256)), (2, (0, 4), (1, 1)), (1, (1000,) * 8, (8000, 1)),
            (2, (1, 1, 1, 1, 1, 1, 1, 1), (255, 256)),
        ):
            self.assert_same(kraft_sum(size, counts), expected)


class Example(CodeCase):
    """Point 85."""

    def test_both_rows(self):
        self.assert_same([necklaces(2, length) for length in range(1, 7)], [2, 1, 2, 3, 6, 9])
        self.assert_same([word_necklaces((1, 1), length) for length in range(1, 7)], [1, 1, 1, 1, 2, 2])


if __name__ == "__main__":
    unittest.main()
