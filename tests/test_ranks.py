"""Points 45 to 47 and 51: evidence that a code is self-synchronizing, or that it is not, and its judge."""

import itertools
import unittest

from syncedwords.ranks import accepts_sync, sync_evidence
from syncedwords.sync import delay, is_synced, states
from syncedwords.unique import is_unique
from tests.families import FIVE, PERIODIC, chosen_codes, small_codes
from tests.oracle import CODES, LATE, CodeCase, all_cuts, leads, make_words, pair_ranks, strings_up_to

LATER = ("a", "ab")
TOLD = ("ranks", (((0, 1), 1), ((1, 0), 1), ((1, 1), 1)), ((0, 1), (1, 0)))
NO_STATES = (-1, 2, 100, 2 ** 70, True, False, None, "0", 0.0, (0,))
NO_TUPLES = (None, True, 0, 1, "", "ring", [], {}, set(), b"", 0.5, range(2))


# Codes without a delay, with pairs from which one letter leads both to the boundary in both places and not.
WITH_SHORT_WORDS = [
    ("bbab", "b", "aaa", "bbaa"), ("aaab", "b", "baa", "aaaa", "bbab"), ("abb", "b", "aaaa", "bbaa"),
    ("aabb", "aaaa", "ba", "b"), ("aabb", "bbab", "abab", "b"),
]


def families():
    return small_codes() + list(CODES) + [FIVE, PERIODIC, LATE] + (
        WITH_SHORT_WORDS + chosen_codes(150, 60, "ab", 4) + chosen_codes(150, 61)
    )


def on_from(code, pair):
    """The pairs of numbers of states to which letters lead from such a pair."""
    numbers = {state: number for number, state in enumerate(states(code))}
    found = set()
    for letter in "abc":
        ways = [(numbers[here], numbers[there]) for here, there in leads(code, letter)]
        for here, there in ways:
            for other_here, other_there in ways:
                if (here, other_here) == pair:
                    found.add((there, other_there))
    return found


def listed_parted(code):
    found = set()
    waiting = [pair for pair in on_from(code, (0, 0)) if pair[0] != pair[1]]
    while waiting:
        pair = waiting.pop()
        if pair not in found:
            found.add(pair)
            waiting += on_from(code, pair)
    return tuple(sorted(found))


class Told(CodeCase):
    """Point 47: the told evidence."""

    def test_ranks_and_parted_pairs(self):
        seen = 0
        for code in small_codes() + list(CODES) + [("a", "ab", "abb"), ("aabab",), LATE, ("b", "cab", "ccab", "a")]:
            if is_synced(code):
                seen += 1
                numbers = {state: number for number, state in enumerate(states(code))}
                ranks = {
                    (numbers[first], numbers[second]): rank for (first, second), rank in pair_ranks(code).items()
                }
                expected = ("ranks", tuple(sorted(ranks.items())), listed_parted(code))
                self.assert_same(sync_evidence(code), expected)
                self.assertEqual(max(ranks.values(), default=0), delay(code))
        self.assertGreater(seen, 40)

    def test_cases(self):
        self.assert_same(sync_evidence(()), ("ranks", (), ()))
        self.assert_same(sync_evidence(("a",)), ("ranks", (), ()))
        self.assert_same(sync_evidence(("a", "b", "c")), ("ranks", (), ()))
        self.assert_same(sync_evidence(LATER), TOLD)
        self.assert_same(sync_evidence(("ab",)), ("ranks", (((0, 1), 1), ((1, 0), 1), ((1, 1), 1)), ()))

    def test_a_ring_with_two_cuts(self):
        for code in families():
            if not is_synced(code):
                evidence = sync_evidence(code)
                self.assertEqual([type(part) for part in evidence], [str, str, tuple, tuple])
                word, ring, first, second = evidence
                self.assertEqual(word, "ring")
                self.assertTrue(1 <= len(ring) <= 1000)
                self.assertNotEqual(first, second)
                for cut in (first, second):
                    self.assertEqual(list(cut), sorted(set(cut)))
                    self.assertTrue(make_words(code, ring, cut)[0])
                    self.assertTrue(all(type(place) is int and 0 <= place < len(ring) for place in cut))


class EachCode(CodeCase):
    """Point 47: there is evidence of exactly one kind."""

    def test_what_is_told_is_accepted(self):
        for code in families():
            evidence = sync_evidence(code)
            self.assertIs(type(evidence), tuple)
            self.assertEqual(evidence[0], "ranks" if is_synced(code) else "ring")
            self.assert_same(accepts_sync(code, evidence), True)

    def test_six_words_of_five_letters(self):
        seen = set()
        for code in [FIVE, PERIODIC] + [
            code for code in chosen_codes(4000, 62) if len(code) == 6 and all(len(word) == 5 for word in code)
        ] + [("ababa", "babab", "aabaa", "bbabb", "abbba", "baaab"), ("abaab", "cccab", "cabca", "bbbca", "caabc", "abbbb")]:
            evidence = sync_evidence(code)
            seen.add(evidence[0])
            self.assert_same(accepts_sync(code, evidence), True)
            if evidence[0] == "ranks":
                self.assertEqual(len(evidence[1]), 624)
        self.assertEqual(seen, {"ranks", "ring"})

    def test_no_ring_for_self_synchronizing_codes(self):
        rings = strings_up_to(5, "ab")[1:]
        for code in small_codes()[::2]:
            if is_synced(code):
                for ring in rings:
                    cuts = all_cuts(code, ring)
                    self.assertLessEqual(len(cuts), 1)
                    places = [(), (0,), (len(ring) - 1,), tuple(range(len(ring)))] + cuts
                    for first, second in itertools.product(places, repeat=2):
                        self.assertIs(accepts_sync(code, ("ring", ring, first, second)), False)

    def test_no_ranks_for_others(self):
        for code in small_codes() + list(CODES):
            if not is_synced(code):
                many = len(states(code))
                apart = [pair for pair in itertools.product(range(many), repeat=2) if pair != (0, 0)]
                ranks = {
                    pair: rank for pair, rank in zip(apart, range(len(apart), 0, -1))
                }
                for numbers in (ranks, {pair: 1 for pair in apart}, {pair: 0 for pair in apart}, self.steps(code, apart)):
                    for parted in ((), listed_parted(code), tuple(apart), tuple(sorted(apart + [(0, 0)]))):
                        value = ("ranks", tuple(sorted(numbers.items())), parted)
                        self.assertIs(accepts_sync(code, value), False)

    def steps(self, code, apart):
        """Numbers that are right if the code has a delay."""
        numbers = {pair: 0 for pair in apart}
        for _ in range(20):
            numbers = {
                pair: 1 + max([numbers[further] for further in on_from(code, pair) if further in numbers], default=0)
                for pair in apart
            }
        return numbers

    def test_a_code_with_a_delay_that_is_not_unique(self):
        code = ("a", "b", "ab")
        self.assertFalse(is_unique(code))
        ranks = (((0, 1), 1), ((1, 0), 1), ((1, 1), 1))
        for parted in ((), ((0, 1), (1, 0)), ((0, 0), (0, 1), (1, 0)), ((0, 1), (1, 0), (1, 1))):
            self.assert_same(accepts_sync(code, ("ranks", ranks, parted)), False)
        self.assert_same(accepts_sync(code, ("ring", "ab", (0,), (0, 1))), True)


class Ranks(CodeCase):
    """Point 45: what the judge accepts and refuses of the ranks."""

    CODE = ("a", "ab", "abb")

    def assert_ranks(self, ranks, expected, code=None):
        parted = sync_evidence(code or self.CODE)[2]
        with self.subTest(ranks=ranks):
            self.assert_same(accepts_sync(code or self.CODE, ("ranks", ranks, parted)), expected)

    def told(self):
        return sync_evidence(self.CODE)[1]

    def test_greater_than_needed(self):
        for more in (1, 5, 2 ** 70):
            self.assert_ranks(tuple((pair, number + more) for pair, number in self.told()), True)
            self.assert_ranks(tuple((pair, number * (more + 1)) for pair, number in self.told()), True)
        tops = [at for at, (pair, number) in enumerate(self.told()) if number == delay(self.CODE)]
        for at in tops:
            self.assert_ranks(self.changed(at, 1000), True)

    def changed(self, at, number):
        told = self.told()
        return told[:at] + ((told[at][0], number),) + told[at + 1:]

    def test_from_0_on(self):
        self.assert_ranks(tuple((pair, number - 1) for pair, number in self.told()), True)
        self.assert_ranks(tuple((pair, number - 2) for pair, number in self.told()), False)

    def test_too_small(self):
        """A number must be greater than those of all pairs apart to which letters lead."""
        for at, (pair, number) in enumerate(self.told()):
            further = [dict(self.told())[there] for there in on_from(self.CODE, pair) if there != (0, 0)]
            for other in range(number + 1):
                self.assert_ranks(self.changed(at, other), other > max(further, default=-1))

    def test_all_equal(self):
        for number in (0, 1, 5):
            self.assert_ranks(tuple((pair, number) for pair, _ in self.told()), False)
            self.assert_ranks((((0, 1), number), ((1, 0), number), ((1, 1), number)), True, LATER)

    def test_an_item_missing(self):
        for at in range(len(self.told())):
            self.assert_ranks(self.told()[:at] + self.told()[at + 1:], False)
        self.assert_ranks((), False)

    def test_one_too_many(self):
        told = self.told()
        self.assert_ranks((((0, 0), 0),) + told, False)
        self.assert_ranks((((0, 0), 9),) + told, False)
        self.assert_ranks(told + (((3, 4), 0),), False)
        self.assert_ranks(told + (((4, 4), 0),), False)
        self.assert_ranks(told + (((4, 0), 0),), False)
        for at in range(len(told)):
            self.assert_ranks(told[:at + 1] + told[at:], False)
            self.assert_ranks(told[:at + 1] + ((told[at][0], told[at][1] + 1),) + told[at + 1:], False)

    def test_another_pair_in_place_of_one(self):
        for at in range(len(self.told())):
            for pair in ((0, 0), (4, 4), (0, 4), (-1, 0), (3, 5)):
                self.assert_ranks(tuple(sorted(self.changed(at, 1)[:at] + ((pair, 1),) + self.told()[at + 1:])), False)

    def test_not_ascending(self):
        told = self.told()
        self.assert_ranks(told[::-1], False)
        for at in range(len(told) - 1):
            self.assert_ranks(told[:at] + (told[at + 1], told[at]) + told[at + 2:], False)

    def test_numbers_that_are_none(self):
        for at in range(len(self.told())):
            for number in (-1, -5, True, False, None, "1", "", 1.0, 9.5, (1,), [1], b"1"):
                self.assert_ranks(self.changed(at, number), False)

    def test_true_in_place_of_1(self):
        for at in range(3):
            ranks = [((0, 1), 1), ((1, 0), 1), ((1, 1), 1)]
            ranks[at] = (ranks[at][0], True)
            self.assert_ranks(tuple(ranks), False, LATER)
            ranks[at] = (ranks[at][0], False)
            self.assert_ranks(tuple(ranks), False, LATER)
        for pair in ((0, True), (False, 1), (False, True)):
            self.assert_ranks(((pair, 1), ((1, 0), 1), ((1, 1), 1)), False, LATER)
        for pair in ((True, 1), (1, True), (True, True)):
            self.assert_ranks((((0, 1), 1), ((1, 0), 1), (pair, 1)), False, LATER)

    def test_items_of_other_kinds(self):
        told = self.told()
        for at, (pair, number) in enumerate(told):
            for item in (
                [pair, number], (list(pair), number), (pair,), (pair, number, number), (pair, (number,)), pair, number,
                None, pair + (number,), (number, pair), ((pair,), number), (pair + (0,), number), (pair[:1], number),
                {pair: number}, ((str(pair[0]), str(pair[1])), number), "", (), (None, number),
                ((float(pair[0]), pair[1]), number),
            ):
                self.assert_ranks(told[:at] + (item,) + told[at + 1:], False)

    def test_other_kinds(self):
        for value in NO_TUPLES + (list(self.told()), dict(self.told()), (self.told(),), iter(self.told())):
            self.assert_ranks(value, False)
        for value in NO_TUPLES:
            self.assert_ranks(value, False, ("a", "b"))

    def test_no_pair_is_apart(self):
        for code in ((), ("a",), ("c", "b", "a")):
            self.assert_same(accepts_sync(code, ("ranks", (), ())), True)
            self.assert_same(accepts_sync(code, ("ranks", (((0, 0), 0),), ())), False)
            self.assert_same(accepts_sync(code, ("ranks", (((0, 1), 0),), ())), False)
            self.assert_same(accepts_sync(code, ("ranks", (), ((0, 0),))), False)


class Parted(CodeCase):
    """Point 45: what the judge accepts and refuses of the parted pairs."""

    def assert_parted(self, code, parted, expected):
        with self.subTest(code=code, parted=parted):
            self.assert_same(accepts_sync(code, ("ranks", sync_evidence(code)[1], parted)), expected)

    def test_missing(self):
        for code in (LATER, ("a", "ab", "abb"), ("aab", "ab", "abb"), LATE):
            told = sync_evidence(code)[2]
            self.assertGreater(len(told), 0)
            self.assert_parted(code, told, True)
            self.assert_parted(code, (), False)
            for at in range(len(told)):
                self.assert_parted(code, told[:at] + told[at + 1:], False)

    def test_one_that_follows_is_missing(self):
        code = ("ab", "abc", "bbc", "bba")
        told = sync_evidence(code)[2]
        firsts = [pair for pair in on_from(code, (0, 0)) if pair[0] != pair[1]]
        self.assertLess(len(firsts), len(told))
        self.assert_parted(code, tuple(sorted(firsts)), False)

    def test_more_than_needed(self):
        code = ("ab", "ac")
        self.assert_same(states(code), [None, (0, 1), (1, 1)])
        self.assert_parted(code, ((1, 2), (2, 1)), True)
        for more, expected in (
            # From (0, 1) letters lead on to nothing but what is together, or to nothing.
            ((0, 1), True), ((0, 2), True), ((1, 0), True), ((2, 0), True),
            # Both states are the same, and the next letter ends both words.
            ((1, 1), False), ((2, 2), False),
        ):
            self.assert_parted(code, tuple(sorted(((1, 2), (2, 1), more))), expected)
        self.assert_parted(code, ((0, 1), (0, 2), (1, 0), (1, 2), (2, 0), (2, 1)), True)

    def test_all_that_do_not_come_together(self):
        """With further pairs the set is right exactly if it is closed and (0, 0) does not come."""
        for code in (LATER, ("ab", "ac"), ("ab",), ("aab", "ab")):
            told = sync_evidence(code)[2]
            many = len(states(code))
            others = [pair for pair in itertools.product(range(many), repeat=2) if pair not in told]
            for more in range(4):
                for rows in itertools.combinations(others, more):
                    parted = tuple(sorted(told + rows))
                    closed = all(on_from(code, pair) <= set(parted) for pair in parted)
                    self.assert_parted(code, parted, closed and (0, 0) not in parted)

    def test_equal_states(self):
        code = ("abc",)
        self.assert_parted(code, (), True)
        self.assert_parted(code, ((1, 1),), False)
        self.assert_parted(code, ((1, 1), (2, 2)), False)
        self.assert_parted(code, ((0, 0), (1, 1), (2, 2)), False)
        code = ("abb", "c")
        self.assert_parted(code, ((1, 2),), False)
        self.assert_parted(code, ((0, 2), (1, 2)), False)
        self.assert_parted(code, ((1, 2), (2, 0)), True)
        self.assert_parted(code, ((0, 1), (0, 2), (1, 0)), True)

    def test_with_the_pair_of_boundaries(self):
        for code in (LATER, ("ab",), ("ab", "ac"), ("a", "b"), ()):
            told = sync_evidence(code)[2]
            self.assert_parted(code, ((0, 0),) + told, False)

    def test_not_ascending(self):
        self.assert_parted(LATER, ((1, 0), (0, 1)), False)
        self.assert_parted(LATER, ((0, 1), (0, 1), (1, 0)), False)
        self.assert_parted(LATER, ((0, 1), (1, 0), (1, 0)), False)
        self.assert_parted(LATER, ((0, 1), (1, 0), (0, 1)), False)

    def test_numbers_that_are_no_states(self):
        for number in NO_STATES:
            for pair in ((number, 0), (0, number), (1, number), (number, 1), (number, number)):
                for parted in (((0, 1), (1, 0), pair), (pair, (0, 1), (1, 0)), ((0, 1), pair, (1, 0))):
                    self.assert_parted(LATER, parted, False)
        self.assert_parted(LATER, ((0, True), (1, 0)), False)
        self.assert_parted(LATER, ((0, 1), (True, 0)), False)
        self.assert_parted(LATER, ((0, 1), (1, False)), False)

    def test_a_state_one_above_the_last(self):
        code = ("ab", "ac")
        self.assert_parted(code, ((1, 2), (2, 1), (3, 0)), False)
        self.assert_parted(code, ((0, 3), (1, 2), (2, 1)), False)
        self.assert_parted((), ((0, 1),), False)
        self.assert_parted(("a",), ((1, 0),), False)

    def test_members_of_other_kinds(self):
        for member in (None, 0, 1, (), (0,), (0, 1, 0), [0, 1], "01", {0, 1}, ((0,), (1,)), b"\0\1"):
            self.assert_parted(LATER, ((0, 1), (1, 0), member), False)
            self.assert_parted(LATER, (member, (1, 0)), False)
        self.assert_parted(LATER, ([0, 1], [1, 0]), False)

    def test_other_kinds(self):
        for value in NO_TUPLES + ([(0, 1), (1, 0)], {(0, 1): 1, (1, 0): 1}, {(0, 1), (1, 0)}, (((0, 1), (1, 0)),)):
            self.assert_parted(LATER, value, False)
        for value in NO_TUPLES:
            self.assert_parted(("a", "b"), value, False)
            self.assert_parted((), value, False)


class RingEvidence(CodeCase):
    """Point 46: what the judge accepts and refuses of rings."""

    TURNED = ("ab", "ba")

    def assert_ring(self, code, ring, first, second, expected):
        with self.subTest(code=code, ring=len(ring) if isinstance(ring, str) else ring):
            self.assert_same(accepts_sync(code, ("ring", ring, first, second)), expected)
            self.assert_same(accepts_sync(code, ("ring", ring, second, first)), expected)

    def test_different_cuts(self):
        self.assert_ring(self.TURNED, "ab", (0,), (1,), True)
        self.assert_ring(self.TURNED, "abab", (0, 2), (1, 3), True)
        self.assert_ring(("a", "b", "ab"), "ab", (0,), (0, 1), True)
        self.assert_ring(("a", "ab", "ba"), "aba", (0, 1), (0, 2), True)
        self.assert_ring(("aaaaa",), "aaaaa", (2,), (4,), True)

    def test_a_ring_of_one_letter(self):
        for code in (("a",), ("a", "aa"), ("a", "ab", "ba")):
            self.assert_ring(code, "a", (0,), (0,), False)
            self.assert_ring(code, "a", (0,), (), False)
            self.assert_ring(code, "a", (0,), (1,), False)
        self.assert_ring(("a", "aa"), "aa", (0, 1), (0,), True)

    def test_equal_cuts(self):
        self.assert_ring(self.TURNED, "ab", (0,), (0,), False)
        self.assert_ring(self.TURNED, "ab", (1,), (1,), False)
        self.assert_ring(self.TURNED, "abab", (0, 2), (0, 2), False)

    def test_1000_and_1001_letters(self):
        for many, expected in ((498, True), (499, True), (500, True), (501, False), (600, False)):
            evens = tuple(range(0, 2 * many, 2))
            odds = tuple(range(1, 2 * many, 2))
            self.assert_ring(self.TURNED, "ab" * many, evens, odds, expected)
        for many, expected in ((999, True), (1000, True), (1001, False)):
            places = tuple(range(many))
            for other in (places[:3] + places[4:], (0,) + places[2:], places[1:], places[:-1]):
                self.assert_ring(("a", "aa"), "a" * many, places, other, expected)
            self.assert_ring(("a", "aa"), "a" * many, places, places, False)

    def test_what_is_no_cut(self):
        for value in NO_TUPLES + (
            (), (0, 1), (2,), (-1,), (0, 2), (1, 0), (0, 0), (1, 1), [0], [1], (True,), (False,), (0.0,), (None,), ("0",),
            ((0,),), 1, "1", (0, 1, 2),
        ):
            self.assert_ring(self.TURNED, "ab", (0,), value, False)
            self.assert_ring(self.TURNED, "ab", (1,), value, False)
            self.assert_ring(self.TURNED, "ab", value, value, False)

    def test_long_rings_with_what_is_no_cut(self):
        evens = tuple(range(0, 1000, 2))
        odds = tuple(range(1, 1000, 2))
        for value in (
            odds[1:], odds[:-1], odds[::-1], odds + (1001,), (1,) + odds, odds[:100] + odds[101:], list(odds),
            (True,) + odds[1:], (-1,) + odds[:-1], odds[:-1] + (1000,), evens[:-1] + (999,),
        ):
            self.assert_ring(self.TURNED, "ab" * 500, evens, value, False)
        self.assert_ring(self.TURNED, "ab" * 500, evens, odds, True)

    def test_what_is_no_ring(self):
        for ring in NO_TUPLES + (("a", "b"), ["a", "b"], b"ab", "aB", "d", "ab\n", "ab ", ("ab",)):
            self.assert_ring(self.TURNED, ring, (0,), (1,), False)

    def test_a_ring_of_other_letters(self):
        self.assert_ring(self.TURNED, "cc", (0,), (1,), False)
        self.assert_ring((), "ab", (0,), (1,), False)


class Judge(CodeCase):
    """Point 51: values of all kinds are judged."""

    def test_other_words_in_front(self):
        for word in ("", "Ranks", "ranks ", "rank", "ring", None, True, 0, b"ranks", ("ranks",), ["ranks"]):
            self.assert_same(accepts_sync(LATER, (word,) + TOLD[1:]), False)
        for word in ("", "Ring", "rings", "ranks", "two", None, 0, b"ring", ("ring",)):
            self.assert_same(accepts_sync(("ab", "ba"), (word, "ab", (0,), (1,))), False)

    def test_lists_and_other_lengths(self):
        for code in (LATER, ("ab", "ba"), ()):
            told = sync_evidence(code)
            self.assert_same(accepts_sync(code, told), True)
            for value in (list(told), told[:-1], told + told[-1:], told + (None,), told[1:], told[::-1], (told,), told[:1], ()):
                self.assert_same(accepts_sync(code, value), False)

    def test_all_other_kinds(self):
        for value in NO_TUPLES + ("ranks", "ring", object(), ("ranks",), ("ring",), ("ranks", (), (), ()), ("ring", "a", (0,))):
            for code in ((), ("a",), LATER, ("ab", "ba")):
                self.assert_same(accepts_sync(code, value), False)

    def test_evidence_for_another_code(self):
        self.assert_same(accepts_sync(("a", "abb"), TOLD), False)
        self.assert_same(accepts_sync(("b", "ba"), TOLD), True)
        self.assert_same(accepts_sync(("ab", "a"), TOLD), True)
        self.assert_same(accepts_sync(("ab",), TOLD), True)
        self.assert_same(accepts_sync(("aa", "b"), TOLD), False)
        self.assert_same(accepts_sync(LATER, ("ring", "ab", (0,), (1,))), False)
        self.assert_same(accepts_sync(LATER, ("ranks", (), ())), False)


if __name__ == "__main__":
    unittest.main()
