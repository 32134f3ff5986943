"""Points 86 to 94 and 96: eliminated words, journals and the codes at their ends, and what became of rings."""

import itertools
import random
import unittest

from syncedwords.errors import BadValue
from syncedwords.lengths import first_failing, necklaces, word_necklaces
from syncedwords.making import accepts_journal, became, code_of, eliminated, made_code, told_journal
from syncedwords.sync import is_synced
from tests.families import chosen_codes, small_codes
from tests.oracle import CodeCase, all_cuts, make_words, strings_up_to

STRINGS = {letters: strings_up_to(8, letters) for letters in ("a", "ab")}
STRINGS["abc"] = strings_up_to(6)
OTHER_KINDS = (
    None, True, False, 0, 1, "", "keep", "a", [], {}, b"", b"keep", range(0), object(), [("keep", "a")], {("keep", "a")},
    ((("keep", "a"),),), ("keep", "a"), ("keep",), (("keep",),), (("keep", "a", "a"),), (["keep", "a"],), ("ka",), (None,), ((),), ("",),
)


def by_length(strings):
    return sorted(set(strings), key=lambda string: (len(string), string))


def is_from(string, words, word):
    """Tell whether the string is any number of copies of the word, with another one of the words behind them."""
    while True:
        if string in words and string != word:
            return True
        if not string.startswith(word):
            return False
        string = string[len(word):]


def listed_elimination(words, word, most, letters):
    return tuple(string for string in STRINGS[letters] if len(string) <= most and is_from(string, words, word))


def all_counts(lengths, most):
    return [
        row for many in range(lengths + 1) for row in itertools.product(range(most + 1), repeat=many) if sum(row) <= 6
    ]


def chosen_counts(many, seed):
    """So many pairs of a size and counts with four or five lengths, of which none fails, always the same ones."""
    numbers = random.Random(seed)
    pool = [
        (size, counts) for size in (2, 3) for counts in all_counts(5, 3) if len(counts) > 3 and first_failing(size, counts) is None
    ]
    return numbers.sample(pool, many)


class Reader:
    """A journal that is read step by step, as point 87 tells it, with sets of words."""

    def __init__(self, size, counts):
        self.most = len(counts)
        self.counts = counts
        self.words = set("abc"[:size]) if counts else set()
        self.opened = set(self.words)
        self.kept = []

    def steps(self):
        """The steps that are allowed here, in order."""
        least = min([len(word) for word in self.opened], default=0)
        row = sorted(word for word in self.opened if len(word) == least)
        return [(action, word) for word in row for action in ("keep", "drop")]

    def read(self, step):
        action, word = step
        self.opened.remove(word)
        if action == "keep":
            self.kept.append(word)
            return
        further = set()
        for other in self.words - {word}:
            while len(other) <= self.most:
                further.add(other)
                other = word + other
        self.opened |= further - self.words
        self.words = further

    def has_ended(self):
        many = [sum(1 for word in self.kept if len(word) == length) for length in range(1, self.most + 1)]
        return not self.opened and tuple(many) == self.counts


def end_of(size, counts, value):
    """The words at the end of a journal, in order by length, or None if the value is none."""
    reader = Reader(size, counts)
    if type(value) is not tuple:
        return None
    for step in value:
        if type(step) is not tuple or step not in reader.steps():
            return None
        reader.read(step)
    return tuple(by_length(reader.words)) if reader.has_ended() else None


def all_journals(size, counts, ahead=()):
    """All journals for the counts, by going on with each step that is allowed."""
    reader = Reader(size, counts)
    for step in ahead:
        reader.read(step)
    if not reader.opened:
        return [ahead] if reader.has_ended() else []
    return [journal for step in reader.steps() for journal in all_journals(size, counts, ahead + (step,))]


def chosen_journal(size, counts, numbers):
    """A journal for counts of which no length fails, in which other words are kept, and dropped in other sequences."""
    reader = Reader(size, counts)
    journal = []
    while reader.opened:
        word = numbers.choice(reader.steps())[1]
        wanted = counts[len(word) - 1] - sum(1 for other in reader.kept if len(other) == len(word))
        left = sum(1 for other in reader.opened if len(other) == len(word))
        journal.append(("keep" if numbers.randrange(left) < wanted else "drop", word))
        reader.read(journal[-1])
    return tuple(journal)


def primitive_rings(size, most):
    rings = strings_up_to(most, "abc"[:size])[1:]
    return [ring for ring in rings if len({ring[many:] + ring[:many] for many in range(len(ring))}) == len(ring)]


def is_turned(word, ring):
    return len(word) == len(ring) and ring in word + word


class Eliminated(CodeCase):
    """Point 86."""

    def assert_listed(self, words, most, letters):
        for word in words:
            for top in range(1, most + 1):
                with self.subTest(words=words, word=word, most=top):
                    self.assert_same(eliminated(words, word, top), listed_elimination(words, word, top, letters))

    def test_against_a_listing(self):
        for words in small_codes():
            self.assert_listed(words, 8, "ab")
        for words in chosen_codes(80, 200, "abc", 4):
            self.assert_listed(words, 6, "abc")

    def test_up_to_12_words_of_8_letters(self):
        numbers = random.Random(201)
        for _ in range(15):
            words = tuple(numbers.sample(STRINGS["ab"][1:], numbers.randrange(7, 13)))
            self.assert_listed(words, 8, "ab")
        self.assert_listed(tuple("a" * many for many in range(1, 9)), 8, "a")

    def test_one_of_one_letter(self):
        for letters in ("a", "b", "c"):
            for most in range(1, 9):
                expected = by_length(letters * many + other for other in "abc" if other != letters for many in range(most))
                self.assert_same(eliminated(("a", "b", "c"), letters, most), tuple(expected))

    def test_what_comes_twice_stands_once(self):
        self.assert_same(eliminated(("a", "b", "ab"), "a", 3), ("b", "ab", "aab"))
        self.assert_same(eliminated(("ab", "abb", "b", "abab"), "ab", 5), ("b", "abb", "abab", "ababb"))
        self.assert_same(eliminated(("a", "aa", "aaa"), "a", 4), ("aa", "aaa", "aaaa"))

    def test_the_only_word(self):
        for word in ("a", "c", "ab", "abcabcab"):
            for most in range(1, 9):
                self.assert_same(eliminated((word,), word, most), ())

    def test_without_words_none_is_among_them(self):
        for word in ("", "a", "ab", None):
            self.assert_error(BadValue, "name", "word", eliminated, (), word, 3)

    def test_fewer_letters_than_a_word(self):
        self.assert_same(eliminated(("abcab", "b"), "b", 3), ())
        self.assert_same(eliminated(("abcab", "b", "ca"), "b", 3), ("ca", "bca"))
        self.assert_same(eliminated(("abcab", "b", "ca"), "abcab", 1), ("b",))
        self.assert_same(eliminated(("abcab", "b", "ca"), "abcab", 4), ("b", "ca"))
        self.assert_same(eliminated(("aaaaaaaa", "b"), "aaaaaaaa", 8), ("b",))
        self.assert_same(eliminated(("aaaaaaaa", "b"), "b", 8), ("aaaaaaaa",))
        self.assert_same(eliminated(("aaaaaaaa", "b"), "b", 7), ())

    def test_in_order_by_length(self):
        self.assert_same(eliminated(("c", "b", "a", "ab", "cc"), "c", 3), ("a", "b", "ab", "ca", "cb", "cc", "cab", "cca", "ccb", "ccc"))
        self.assert_same(eliminated(("b", "a"), "a", 4), ("b", "ab", "aab", "aaab"))

    def test_the_sequence_of_the_words_does_not_matter(self):
        for words in itertools.permutations(("a", "ab", "bb", "c")):
            for word in words:
                self.assert_same(eliminated(words, word, 5), listed_elimination(words, word, 5, "abc"))

    def test_a_circular_code_stays_one(self):
        many = 0
        for words in small_codes() + chosen_codes(200, 202, "ab", 4, 3) + chosen_codes(200, 203, "abc", 3, 3):
            for word in words if is_synced(words) else ():
                for most in range(1, 6):
                    found = eliminated(words, word, most)
                    if len(found) <= 6:
                        self.assertTrue(is_synced(found), (words, word, most))
                        many += 1
        self.assertGreater(many, 500)

    def test_the_cuts_of_rings(self):
        """A ring that could be cut can be cut, before the places where another word ended, or is made of the word."""
        for words in (("a", "b"), ("a", "ab"), ("ab", "abb", "b"), ("ba", "b", "baa"), ("aab", "ab", "abb"), ("b", "aab")):
            for word in words if is_synced(words) else ():
                further = eliminated(words, word, 6)
                for ring in strings_up_to(6, "ab")[1:]:
                    self.assert_cut_on(words, word, further, ring)

    def assert_cut_on(self, words, word, further, ring):
        for cut in all_cuts(words, ring):
            made = make_words(words, ring, cut)[1]
            places = tuple(place for place, ahead in zip(cut, made[-1:] + made[:-1]) if ahead != word)
            if places:
                self.assertEqual(all_cuts(further, ring), [places], (words, word, ring))
            else:
                self.assertEqual(all_cuts(further, ring), [], (words, word, ring))


class Judged(CodeCase):
    """Points 87 and 88."""

    def assert_judged(self, size, counts, value):
        expected = end_of(size, counts, value)
        with self.subTest(size=size, counts=counts, value=value):
            self.assert_same(accepts_journal(size, counts, value), expected is not None)
            self.assert_same(code_of(size, counts, value), expected)
        return expected

    def test_all_journals_of_small_counts(self):
        many = 0
        for size, counts in [(1, counts) for counts in all_counts(4, 2)] + [(2, counts) for counts in all_counts(3, 2)]:
            journals = all_journals(size, counts)
            self.assertEqual(bool(journals), first_failing(size, counts) is None, (size, counts))
            for journal in journals:
                self.assertIsNotNone(self.assert_judged(size, counts, journal))
                many += 1
        self.assertGreater(many, 50)

    def test_other_words_kept_and_another_sequence(self):
        numbers = random.Random(210)
        others = 0
        for size, counts in chosen_counts(60, 211) + [(3, (0, 0, 0, 0, 0)), (3, (0, 3, 3)), (3, (3,)), (3, (0, 0, 6))]:
            for _ in range(3):
                journal = chosen_journal(size, counts, numbers)
                self.assertIsNotNone(self.assert_judged(size, counts, journal))
                others += journal != told_journal(size, counts)
        self.assertGreater(others, 100)

    def changed(self, size, journal):
        """The journal with a step left out, put in, turned, of another word, or exchanged with the next one."""
        rows = []
        words = [word for _, word in journal] + ["", "a", "b", "c", "d", "ab", "ba", "aba", "aaaaaa", "A", None, 0, True, b"a", ["a"]]
        for at, (action, word) in enumerate(journal):
            rows.append(journal[:at] + journal[at + 1:])
            rows.append(journal[:at])
            rows.append(journal[:at] + (journal[at],) + journal[at:])
            rows.append(journal[:at] + ({"keep": "drop", "drop": "keep"}[action], word) + journal[at + 1:])
            rows.append(journal[:at] + (({"keep": "drop", "drop": "keep"}[action], word),) + journal[at + 1:])
            rows.append(journal[:at] + journal[at + 1:at + 2] + (journal[at],) + journal[at + 2:])
            for other in words:
                rows.append(journal[:at] + ((action, other),) + journal[at + 1:])
                rows.append(journal[:at] + (("drop", other),) + journal[at:])
            for step in ([action, word], (action,), (word,), (action, word, word), (), (word, action), ("keep ", word), None, word):
                rows.append(journal[:at] + (step,) + journal[at + 1:])
            for other in ("Keep", "put", "", None, True, 0, b"keep", ["keep"], ("keep",)):
                rows.append(journal[:at] + ((other, word),) + journal[at + 1:])
        for other in words:
            rows += [journal + (("keep", other),), journal + (("drop", other),)]
        return rows + [list(journal), journal + (None,), (journal,), dict(enumerate(journal))]

    def test_changed_journals(self):
        right, wrong = 0, 0
        for size, counts in ((2, (1, 1, 1)), (2, ()), (2, (0,)), (3, (2, 1)), (2, (0, 1, 2)), (3, (1, 2, 1)), (1, (1,)), (1, (0, 0)), (2, (0, 0, 2, 1)), (3, (3,))):
            journal = told_journal(size, counts)
            for value in self.changed(size, journal):
                if self.assert_judged(size, counts, value) is None:
                    wrong += 1
                else:
                    right += 1
        self.assertGreater(wrong, 1000)
        self.assertGreater(right, 5)

    def test_a_word_longer_than_another_open_one(self):
        self.assert_judged(2, (1, 1), (("drop", "b"), ("keep", "ba"), ("keep", "a")))
        self.assert_same(accepts_journal(2, (1, 1), (("drop", "b"), ("keep", "ba"), ("keep", "a"))), False)
        self.assert_same(accepts_journal(2, (1, 1), (("drop", "b"), ("keep", "a"), ("keep", "ba"))), True)
        self.assert_same(code_of(2, (1, 1), (("drop", "b"), ("keep", "ba"), ("keep", "a"))), None)

    def test_a_kept_word_is_open_no_more(self):
        self.assert_same(accepts_journal(2, (1, 1), (("keep", "a"), ("keep", "a"), ("drop", "b"), ("keep", "ba"))), False)
        self.assert_same(accepts_journal(2, (1, 1), (("keep", "a"), ("drop", "a"), ("drop", "b"), ("keep", "ba"))), False)
        self.assert_same(accepts_journal(2, (2,), (("keep", "b"), ("keep", "a"))), True)
        self.assert_same(code_of(2, (2,), (("keep", "b"), ("keep", "a"))), ("a", "b"))

    def test_journals_for_other_counts(self):
        counts = [(size, row) for size in (1, 2, 3) for row in all_counts(2, 3)] + [(2, (1, 1, 1)), (3, (1, 1, 1)), (2, (1, 1, 0))]
        journals = {told_journal(size, row) for size, row in counts} - {None}
        for size, row in counts:
            for journal in journals:
                self.assert_judged(size, row, journal)

    def test_counts_of_which_a_length_fails(self):
        for size, counts in ((2, (2, 1)), (2, (0, 2)), (2, (3,)), (1, (0, 1)), (1, (2,)), (3, (4,)), (2, (1, 1, 2)), (3, (3, 0, 1))):
            self.assertEqual(all_journals(size, counts) if size < 3 else [], [])
            for value in (
                (), (("keep", "a"),), (("keep", "a"), ("keep", "b")), (("keep", "a"), ("keep", "b"), ("keep", "c")),
                (("keep", "a"), ("keep", "b"), ("keep", "ab")), (("drop", "a"), ("keep", "b"), ("keep", "ab"), ("keep", "ab")),
                (("drop", "a"), ("keep", "b"), ("keep", "ab"), ("keep", "aab")),
            ):
                self.assert_same(accepts_journal(size, counts, value), False)
                self.assert_same(code_of(size, counts, value), None)

    def test_no_counts_and_noughts_alone(self):
        for size in (1, 2, 3):
            self.assert_same(accepts_journal(size, (), ()), True)
            self.assert_same(code_of(size, (), ()), ())
            self.assert_same(accepts_journal(size, (), (("drop", "a"),)), False)
            self.assert_same(accepts_journal(size, (), (("keep", "a"),)), False)
            self.assert_same(accepts_journal(size, (0,), ()), False)
            self.assert_same(accepts_journal(size, (0,), tuple(("drop", letter) for letter in "abc"[:size])), True)
            self.assert_same(accepts_journal(size, (0,), tuple(("drop", letter) for letter in "abc"[:size][::-1])), True)
            for many in range(1, 5 if size == 3 else 6):
                journal = told_journal(size, (0,) * many)
                self.assertEqual({action for action, _ in journal}, {"drop"})
                self.assert_same(code_of(size, (0,) * many, journal), ())
                self.assert_same(accepts_journal(size, (0,) * many, journal), True)
                self.assert_same(accepts_journal(size, (0,) * many, journal[:-1]), False)

    def test_values_of_all_other_kinds(self):
        for size, counts in ((2, (1,)), (2, ()), (1, (1,)), (3, (0, 0))):
            for value in OTHER_KINDS:
                self.assert_same(accepts_journal(size, counts, value), False)
                self.assert_same(code_of(size, counts, value), None)

    def test_lists_in_place_of_tuples(self):
        journal = told_journal(2, (1, 1, 1))
        for value in (list(journal), [list(step) for step in journal], tuple(list(step) for step in journal)):
            self.assert_same(accepts_journal(2, (1, 1, 1), value), False)
            self.assert_same(code_of(2, (1, 1, 1), value), None)

    def test_the_code_is_circular(self):
        numbers = random.Random(212)
        for size, counts in chosen_counts(80, 213) + [(2, counts) for counts in all_counts(3, 2)]:
            if first_failing(size, counts) is None:
                for journal in (told_journal(size, counts), chosen_journal(size, counts, numbers)):
                    code = code_of(size, counts, journal)
                    self.assertTrue(is_synced(code), (size, counts, journal))
                    self.assertEqual(tuple(sum(1 for word in code if len(word) == many + 1) for many in range(len(counts))), counts)

    def test_no_ring_is_cut_in_two_ways(self):
        numbers = random.Random(214)
        for size, counts in ((2, (1, 1, 1)), (2, (0, 1, 2)), (2, (0, 0, 2, 3)), (3, (2, 2)), (3, (1, 2, 3))):
            code = code_of(size, counts, chosen_journal(size, counts, numbers))
            for ring in strings_up_to(8 if size == 2 else 5, "abc"[:size])[1:]:
                self.assertLessEqual(len(all_cuts(code, ring)), 1, (code, ring))


class Told(CodeCase):
    """Points 89 and 94."""

    def told(self, size, counts):
        """The told journal, by the words of point 89."""
        reader = Reader(size, counts)
        journal = []
        for length, wanted in enumerate(counts, start=1):
            row = sorted(word for word in reader.opened if len(word) == length)
            steps = [("keep", word) for word in row[:wanted]] + [("drop", word) for word in row[wanted:]]
            for step in steps:
                reader.read(step)
            journal += steps
        return tuple(journal) if reader.has_ended() else None

    def test_all_counts_of_few_letters(self):
        for size in (1, 2, 3):
            for counts in all_counts(3, 6):
                self.assert_told(size, counts)

    def test_four_and_five_lengths(self):
        for size, counts in chosen_counts(80, 220) + [(1, (1, 0, 0, 0, 0)), (1, (0,) * 5), (1, (0, 0, 0, 0, 1)), (2, (0, 0, 0, 0, 6))]:
            self.assert_told(size, counts)

    def assert_told(self, size, counts):
        with self.subTest(size=size, counts=counts):
            expected = self.told(size, counts)
            self.assertEqual(expected is None, first_failing(size, counts) is not None)
            self.assert_same(told_journal(size, counts), expected)
            code = made_code(size, counts)
            if expected is None:
                self.assert_same(code, None)
                return
            kept = [word for action, word in expected if action == "keep"]
            self.assert_same(code, tuple(by_length(kept)))
            self.assert_same(accepts_journal(size, counts, expected), True)
            self.assert_same(code_of(size, counts, expected), code)

    def test_none_for_all_counts_of_which_a_length_fails(self):
        for size in (1, 2, 3):
            for counts in all_counts(5, 6):
                failing = first_failing(size, counts) is not None
                self.assertEqual(told_journal(size, counts) is None, failing, (size, counts))
                if failing:
                    self.assertIsNone(made_code(size, counts))

    def test_cases(self):
        for size, counts, expected in (
            (2, (1, 1, 1), ("a", "ba", "bba")), (2, (2, 1), None), (2, (), ()), (2, (0, 0, 2), ("aab", "bab")), (2, (0,), ()),
            (3, (3,), ("a", "b", "c")), (3, (2,), ("a", "b")), (3, (1,), ("a",)), (1, (1,), ("a",)), (1, (1, 0, 0), ("a",)),
            (1, (0, 1), None), (2, (0, 1), ("ab",)), (2, (1, 1, 1, 1, 1), ("a", "ba", "bba", "bbba", "bbbba")), (3, (2, 2), ("a", "b", "ca", "cb")),
        ):
            self.assert_same(made_code(size, counts), expected)

    def test_circular_codes_have_made_ones_beside_them(self):
        many = 0
        for code in small_codes() + chosen_codes(300, 221, "ab", 4) + chosen_codes(300, 222):
            if is_synced(code):
                size = 3 if "c" in "".join(code) else 2
                counts = tuple(sum(1 for word in code if len(word) == length) for length in range(1, 6))
                made = made_code(size, counts)
                self.assertEqual([len(word) for word in made], sorted(len(word) for word in code))
                many += 1
        self.assertGreater(many, 150)


class Became(CodeCase):
    """Points 90 to 93."""

    CASES = (
        (1, (1,)), (1, (0,)), (1, (1, 0, 0)), (2, (1, 1, 1)), (2, (0, 0, 2)), (2, (0, 1, 2, 3)), (2, (2, 0, 0, 0, 0)), (2, (0,) * 5),
        (2, (1, 1, 1, 1, 1)), (2, (0, 0, 2, 2, 2)), (2, (0, 0, 0, 0, 6)), (3, (1, 1)), (3, (0, 3, 3)), (3, (2, 2, 2)), (3, (3, 0, 0)), (3, (0, 1, 2, 1)),
    )

    def assert_became(self, size, counts, ring, journal, code):
        dropped = [word for action, word in journal if action == "drop" and is_turned(word, ring)]
        cuts = all_cuts(code, ring)
        self.assertEqual(len(dropped) + len(cuts), 1, (size, counts, ring))
        return ("dropped", dropped[0]) if dropped else ("cut", cuts[0])

    def test_all_primitive_rings(self):
        for size, counts in self.CASES:
            journal, code = told_journal(size, counts), made_code(size, counts)
            for ring in primitive_rings(size, len(counts)):
                expected = self.assert_became(size, counts, ring, journal, code)
                with self.subTest(size=size, counts=counts, ring=ring):
                    self.assert_same(became(size, counts, ring), expected)

    def test_five_letters_of_three(self):
        for counts in ((1, 1, 1, 1, 1), (0, 0, 0, 0, 6), (0, 2, 1, 0, 3)):
            journal, code = told_journal(3, counts), made_code(3, counts)
            for ring in primitive_rings(3, 5)[::3]:
                self.assert_same(became(3, counts, ring), self.assert_became(3, counts, ring, journal, code))

    def test_whoever_wrote_the_journal(self):
        numbers = random.Random(230)
        for size, counts in self.CASES:
            for _ in range(2):
                journal = chosen_journal(size, counts, numbers)
                code = code_of(size, counts, journal)
                for ring in primitive_rings(size, len(counts)):
                    self.assert_became(size, counts, ring, journal, code)

    def test_turned_rings(self):
        for size, counts in self.CASES:
            for ring in primitive_rings(size, len(counts))[::3]:
                first = became(size, counts, ring)
                for many in range(1, len(ring)):
                    found = became(size, counts, ring[many:] + ring[:many])
                    if first[0] == "dropped":
                        self.assert_same(found, first)
                    else:
                        places = sorted((place - many) % len(ring) for place in first[1])
                        self.assert_same(found, ("cut", tuple(places)))

    def test_a_word_that_goes_around(self):
        self.assert_same(became(2, (1, 1, 1), "abb"), ("cut", (1,)))
        self.assert_same(became(2, (1, 1, 1), "bab"), ("cut", (2,)))
        self.assert_same(became(2, (1, 1, 1), "bba"), ("cut", (0,)))
        self.assert_same(became(2, (1, 1, 1), "aba"), ("cut", (0, 1)))
        self.assert_same(became(2, (1, 1, 1), "ab"), ("cut", (1,)))
        self.assert_same(became(2, (0, 0, 2), "ab"), ("dropped", "ab"))
        self.assert_same(became(2, (0, 0, 2), "ba"), ("dropped", "ab"))

    def test_how_many_words_are_dropped(self):
        numbers = random.Random(231)
        for size, counts in chosen_counts(60, 232) + list(self.CASES):
            for journal in (told_journal(size, counts), chosen_journal(size, counts, numbers)):
                self.assertTrue(accepts_journal(size, counts, journal))
                for length in range(1, len(counts) + 1):
                    dropped = sum(1 for action, word in journal if action == "drop" and len(word) == length)
                    self.assertEqual(dropped, necklaces(size, length) - word_necklaces(counts, length))


class Example(CodeCase):
    """Point 96."""

    def test_one_word_each_of_one_two_and_three_letters(self):
        self.assert_same(told_journal(2, (1, 1, 1)), (("keep", "a"), ("drop", "b"), ("keep", "ba"), ("keep", "bba")))
        self.assert_same(made_code(2, (1, 1, 1)), ("a", "ba", "bba"))
        self.assert_same(eliminated(("a", "b"), "b", 3), ("a", "ba", "bba"))


if __name__ == "__main__":
    unittest.main()
