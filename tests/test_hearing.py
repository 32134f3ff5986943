"""Points 57, 58 and 62: evidence that a place is a known boundary, or that it is not, and its judge."""

import itertools
import random
import unittest

from syncedwords.hearing import accepts_place, place_evidence
from syncedwords.listeners import is_observable, known_boundaries, states_at
from syncedwords.sync import states
from tests.families import FIVE, PERIODIC, chosen_codes, small_codes
from tests.oracle import CODES, LATE, CodeCase, leads, strings_up_to

LATER = ("a", "ab")
NO_TUPLES = (None, True, 0, 1, "", "known", [], {}, set(), b"", 0.5, range(2))


def observable_samples():
    numbers = random.Random(80)
    for code in CODES + (LATER, LATE, FIVE, PERIODIC, ("aab", "ab", "abb"), ("abc", "ab", "c")):
        for string in strings_up_to(3) + ["aabab", "abcab", "ccbcbc"]:
            if is_observable(code, string):
                yield code, string
    for code in small_codes()[::5]:
        for string in strings_up_to(4, "ab"):
            if is_observable(code, string):
                yield code, string
    for code in chosen_codes(60, 81) + chosen_codes(60, 82, "ab", 4) + [FIVE, PERIODIC, LATE]:
        message = "".join(numbers.choice(code) for _ in range(30))
        begin = numbers.randrange(5)
        yield code, message[begin:begin + 24]


def ways_of_letter(code, letter):
    """Pairs of numbers of states: from which one to which one the letter leads."""
    numbers = {state: number for number, state in enumerate(states(code))}
    return {(numbers[here], numbers[there]) for here, there in leads(code, letter)}


def all_states(code):
    return tuple(range(len(states(code))))


def least_sets(code, string, place):
    """The least sets that the judge accepts ahead of the place and behind it."""
    ahead = [all_states(code)]
    for letter in string[:place]:
        ahead.append(tuple(sorted({there for here, there in ways_of_letter(code, letter) if here in ahead[-1]})))
    behind = [all_states(code)]
    for letter in string[place:][::-1]:
        behind.append(tuple(sorted({here for here, there in ways_of_letter(code, letter) if there in behind[-1]})))
    return tuple(ahead), tuple(behind[::-1])


def is_right(code, string, place, ahead, behind):
    """The words of point 57, said of sets of the right form."""
    every = set(all_states(code))
    if set(ahead[0]) != every or set(behind[-1]) != every or set(ahead[-1]) & set(behind[0]) - {0}:
        return False
    for at in range(place):
        if not {there for here, there in ways_of_letter(code, string[at]) if here in ahead[at]} <= set(ahead[at + 1]):
            return False
    for at in range(place, len(string)):
        sets = behind[at - place:]
        if not {here for here, there in ways_of_letter(code, string[at]) if there in sets[1]} <= set(sets[0]):
            return False
    return True


class Told(CodeCase):
    """Point 58: for each place there is evidence of exactly one word."""

    def test_what_is_told_is_accepted(self):
        for code, string in observable_samples():
            places = known_boundaries(code, string)
            for place in range(len(string) + 1):
                evidence = place_evidence(code, string, place)
                self.assertIs(type(evidence), tuple)
                self.assertEqual(evidence[0], "known" if place in places else "open")
                self.assert_same(accepts_place(code, string, place, evidence), True)

    def test_its_form(self):
        for code, string in observable_samples():
            for place in range(len(string) + 1):
                evidence = place_evidence(code, string, place)
                if evidence[0] == "open":
                    word, run = evidence
                    self.assertIs(type(run), tuple)
                    self.assertEqual(len(run), len(string) + 1)
                    self.assertNotEqual(run[place], 0)
                    for at, letter in enumerate(string):
                        self.assertIn((run[at], run[at + 1]), ways_of_letter(code, letter))
                else:
                    word, ahead, behind = evidence
                    self.assertEqual((type(ahead), len(ahead)), (tuple, place + 1))
                    self.assertEqual((type(behind), len(behind)), (tuple, len(string) - place + 1))
                    for row in ahead + behind:
                        self.assertIs(type(row), tuple)
                        self.assertEqual(list(row), sorted(set(row)))
                    self.assertTrue(is_right(code, string, place, ahead, behind))

    def test_the_other_word_is_refused(self):
        for code, string in observable_samples():
            if len(string) > 5:
                continue
            for place in range(len(string) + 1):
                if place in known_boundaries(code, string):
                    for run in itertools.islice(itertools.product(all_states(code), repeat=len(string) + 1), 200):
                        self.assertIs(accepts_place(code, string, place, ("open", run)), False)
                else:
                    ahead, behind = least_sets(code, string, place)
                    self.assert_same(accepts_place(code, string, place, ("known", ahead, behind)), False)
                    for less in ahead[-1]:
                        fewer = ahead[:-1] + (tuple(state for state in ahead[-1] if state != less),)
                        self.assert_same(accepts_place(code, string, place, ("known", fewer, behind)), False)

    def test_each_state_of_a_place_has_a_run(self):
        for code, string in observable_samples():
            if len(string) > 5:
                continue
            for place in range(len(string) + 1):
                kind = place_evidence(code, string, place)[0]
                self.assertEqual(kind == "known", states_at(code, string, place) == (0,))

    def test_cases(self):
        self.assert_same(place_evidence(LATER, "a", 1), ("open", (0, 1)))
        self.assert_same(place_evidence(("abc",), "b", 0), ("open", (1, 2)))
        self.assert_same(place_evidence(("abc",), "b", 1), ("open", (1, 2)))
        for code, place in (((), 0), (("a",), 0), (("b", "a"), 0)):
            evidence = place_evidence(code, "", place)
            self.assert_same(evidence, ("known", ((0,),), ((0,),)))
        for place in range(25):
            self.assertEqual(place_evidence(("a",), "a" * 24, place)[0], "known")
            self.assertEqual(place_evidence(("aa",), "a" * 24, place)[0], "open")


class KnownSets(CodeCase):
    """Point 57: what the judge accepts and refuses of sets."""

    # The states at the places of aab: 0, 0, 1, 0.
    AHEAD = ((0, 1), (0, 1))
    BEHIND = ((0,), (1,), (0, 1))

    def assert_sets(self, code, string, place, ahead, behind, expected):
        with self.subTest(code=code, string=string, place=place, ahead=ahead, behind=behind):
            self.assert_same(accepts_place(code, string, place, ("known", ahead, behind)), expected)

    def assert_later(self, ahead, behind, expected):
        self.assert_sets(LATER, "aab", 1, ahead, behind, expected)

    def test_the_least_sets(self):
        self.assert_later(self.AHEAD, self.BEHIND, True)
        for code, string in observable_samples():
            for place in known_boundaries(code, string):
                ahead, behind = least_sets(code, string, place)
                self.assert_sets(code, string, place, ahead, behind, True)

    def test_all_sets(self):
        """Each pair of tuples of sets for short strings is accepted exactly if the words of the document hold."""
        for code, string, place in ((LATER, "a", 0), (LATER, "a", 1), (LATER, "b", 1), (("ab",), "b", 1), (("ab",), "a", 0),
                                    (("abc",), "", 0), (("a",), "a", 1), (LATER, "aa", 1), (("aa",), "a", 0)):
            every = all_states(code)
            sets = [row for many in range(len(every) + 1) for row in itertools.combinations(every, many)]
            for ahead in itertools.product(sets, repeat=place + 1):
                for behind in itertools.product(sets, repeat=len(string) - place + 1):
                    self.assert_sets(code, string, place, ahead, behind, is_right(code, string, place, ahead, behind))

    def test_states_more(self):
        code = ("abc", "c")
        ahead, behind = least_sets(code, "abcc", 3)
        self.assertEqual((ahead, behind), (((0, 1, 2), (1,), (2,), (0,)), ((0, 2), (0, 1, 2))))
        self.assert_sets(code, "abcc", 3, ahead, behind, True)
        self.assert_sets(code, "abcc", 3, ahead[:3] + ((0, 1),), behind, True)
        self.assert_sets(code, "abcc", 3, ahead[:3] + ((0, 2),), behind, False)
        self.assert_sets(code, "abcc", 3, ahead[:2] + ((1, 2), (0,)), behind, True)
        self.assert_sets(code, "abcc", 3, ahead[:2] + ((0, 2), (0,)), behind, True)
        self.assert_sets(code, "abcc", 3, ahead[:1] + ((0, 1), (2,), (0,)), behind, True)
        self.assert_sets(code, "abcc", 3, ahead[:1] + ((1, 2), (2,), (0,)), behind, True)
        self.assert_sets(code, "abcc", 3, ahead[:1] + ((0, 1, 2), (2,), (0,)), behind, True)
        self.assert_sets(code, "abcc", 3, ahead, ((0, 1, 2), (0, 1, 2)), True)
        self.assert_sets(code, "abcc", 3, ahead[:3] + ((0, 1),), ((0, 1, 2), (0, 1, 2)), False)

    def test_a_state_missing(self):
        for code, string, place in ((LATER, "aab", 1), (("abc", "c"), "abcc", 3), (("abc", "c"), "cab", 1), (("a", "b"), "ab", 1)):
            ahead, behind = least_sets(code, string, place)
            self.assert_sets(code, string, place, ahead, behind, True)
            for at, row in enumerate(ahead):
                for state in row:
                    less = tuple(other for other in row if other != state)
                    self.assert_sets(code, string, place, ahead[:at] + (less,) + ahead[at + 1:], behind, False)
            for at, row in enumerate(behind):
                for state in row:
                    less = tuple(other for other in row if other != state)
                    self.assert_sets(code, string, place, ahead, behind[:at] + (less,) + behind[at + 1:], False)

    def test_not_ascending_and_twice(self):
        for ahead in (((1, 0), (0, 1)), ((0, 1), (1, 0)), ((0, 0, 1), (0, 1)), ((0, 1, 1), (0, 1)), ((0, 1), (0, 1, 1)),
                      ((0, 1), (0, 0, 1)), ((0, 1, 0), (0, 1))):
            self.assert_later(ahead, self.BEHIND, False)
        for behind in (((0, 0), (1,), (0, 1)), ((0,), (1, 1), (0, 1)), ((0,), (1,), (1, 0)), ((0,), (1,), (0, 1, 1)),
                       ((0,), (1, 0), (0, 1))):
            self.assert_later(self.AHEAD, behind, False)

    def test_numbers_that_are_no_states(self):
        for number in (-1, 2, 100, 2 ** 70, True, False, None, "0", 0.0, 1.0, (0,)):
            for row in ((0, number), (number,), (0, 1, number), (number, 0, 1), (number, 1)):
                self.assert_later((row, (0, 1)), self.BEHIND, False)
                self.assert_later(((0, 1), row), self.BEHIND, False)
                self.assert_later(self.AHEAD, (row, (1,), (0, 1)), False)
                self.assert_later(self.AHEAD, ((0,), row, (0, 1)), False)
                self.assert_later(self.AHEAD, ((0,), (1,), row), False)

    def test_true_in_place_of_1(self):
        self.assert_later(((0, True), (0, 1)), self.BEHIND, False)
        self.assert_later(((0, 1), (0, True)), self.BEHIND, False)
        self.assert_later(((False, 1), (0, 1)), self.BEHIND, False)
        self.assert_later(self.AHEAD, ((0,), (True,), (0, 1)), False)
        self.assert_later(self.AHEAD, ((False,), (1,), (0, 1)), False)
        self.assert_later(self.AHEAD, ((0,), (1,), (False, True)), False)

    def test_too_many_and_too_few_sets(self):
        ahead, behind = self.AHEAD, self.BEHIND
        for other in ((), ahead[:1], ahead[1:], ahead + ahead[:1], ahead + ((0, 1),), ((0, 1),) + ahead + ((0, 1),)):
            self.assert_later(other, behind, len(other) == 2)
        for other in ((), behind[:1], behind[:2], behind[1:], behind + ((0, 1),), ((0,),) + behind, behind + behind):
            self.assert_later(ahead, other, False)
        self.assert_later(behind, ahead, False)

    def test_another_place_or_string(self):
        value = ("known", self.AHEAD, self.BEHIND)
        for place in (0, 2, 3):
            self.assert_same(accepts_place(LATER, "aab", place, value), False)
        self.assert_same(accepts_place(LATER, "aaa", 1, value), False)
        self.assert_same(accepts_place(LATER, "aaba", 1, value), False)
        self.assert_same(accepts_place(LATER, "bab", 1, value), True)
        self.assert_same(accepts_place(("ab", "a"), "aab", 1, value), True)

    def test_lists_and_other_kinds(self):
        ahead, behind = self.AHEAD, self.BEHIND
        for other in NO_TUPLES + (list(ahead), ([0, 1], (0, 1)), ((0, 1), [0, 1]), ((0, 1), {0, 1}), ((0, 1), "01"),
                                  ((0, 1), None), (0, 1), ((0, 1), 1), dict(enumerate(ahead)), ((0, 1), range(2))):
            self.assert_later(other, behind, False)
        for other in NO_TUPLES + (list(behind), ([0], (1,), (0, 1)), ((0,), [1], (0, 1)), ((0,), (1,), [0, 1]), (0, 1, (0, 1)),
                                  ((0,), (1,), None), ((0,), b"\1", (0, 1)), ((0,), {1: 1}, (0, 1))):
            self.assert_later(ahead, other, False)

    def test_the_empty_string(self):
        self.assert_sets((), "", 0, ((0,),), ((0,),), True)
        self.assert_sets(("a",), "", 0, ((0,),), ((0,),), True)
        self.assert_sets((), "", 0, ((),), ((0,),), False)
        self.assert_sets((), "", 0, ((0,),), ((),), False)
        self.assert_sets((), "", 0, ((0, 1),), ((0,),), False)
        self.assert_sets(LATER, "", 0, ((0, 1),), ((0, 1),), False)


class OpenRuns(CodeCase):
    """Point 57: what the judge accepts and refuses of runs."""

    def assert_run(self, code, string, place, run, expected):
        with self.subTest(code=code, string=string, place=place, run=run):
            self.assert_same(accepts_place(code, string, place, ("open", run)), expected)

    def test_each_tuple_of_states(self):
        for code, string in (
            (LATER, "aab"), (LATER, "a"), (LATER, ""), (("ab", "ba"), "aba"), (("abc",), "bca"), (("aa",), "aaa"), (("a",), "aa"),
            (("ab", "ac"), "ab"), ((), ""), (("a", "b", "ab"), "abb"),
        ):
            for run in itertools.product(all_states(code), repeat=len(string) + 1):
                right = all((run[at], run[at + 1]) in ways_of_letter(code, letter) for at, letter in enumerate(string))
                for place in range(len(string) + 1):
                    self.assert_run(code, string, place, run, right and run[place] != 0)

    def test_the_boundary_at_the_place(self):
        self.assert_run(("ab", "ba"), "abab", 1, (0, 1, 0, 1, 0), True)
        self.assert_run(("ab", "ba"), "abab", 2, (0, 1, 0, 1, 0), False)
        self.assert_run(("ab", "ba"), "abab", 0, (0, 1, 0, 1, 0), False)
        self.assert_run(("ab", "ba"), "abab", 2, (2, 0, 2, 0, 2), True)

    def test_a_step_to_which_no_letter_leads(self):
        for run in ((0, 1, 1, 1, 0), (0, 1, 0, 1, 1), (1, 1, 0, 1, 0), (0, 2, 0, 1, 0), (2, 1, 0, 1, 0), (0, 1, 0, 2, 0)):
            self.assert_run(("ab", "ba"), "abab", 1, run, False)

    def test_too_short_and_too_long(self):
        for run in ((), (0,), (0, 1), (0, 1, 0), (0, 1, 0, 1), (0, 1, 0, 1, 0, 1), (0, 1, 0, 1, 0, 0), (0,) + (0, 1, 0, 1, 0)):
            self.assert_run(("ab", "ba"), "abab", 1, run, False)
        self.assert_run(LATER, "", 0, (1,), True)
        self.assert_run(LATER, "", 0, (), False)
        self.assert_run(LATER, "", 0, (1, 0), False)
        self.assert_run(LATER, "", 0, (0,), False)

    def test_numbers_that_are_no_states(self):
        for number in (-1, -2, 3, 100, 2 ** 70, True, False, None, "1", 1.0, (1,)):
            self.assert_run(("ab", "ba"), "abab", 1, (0, number, 0, 1, 0), False)
            self.assert_run(("ab", "ba"), "abab", 3, (0, number, 0, 1, 0), False)
            self.assert_run(("ab", "ba"), "abab", 1, (number, 1, 0, 1, 0), False)
            self.assert_run(("ab", "ba"), "abab", 1, (0, 1, 0, 1, number), False)
        self.assert_run(LATER, "a", 1, (0, True), False)
        self.assert_run(LATER, "a", 1, (False, 1), False)
        self.assert_run(LATER, "", 0, (True,), False)

    def test_negative_numbers(self):
        """They are no states, though Python would count them from the end of a list."""
        self.assert_run(("ab", "ba"), "aab", 2, (2, 0, 1, 0), True)
        self.assert_run(("ab", "ba"), "aab", 2, (-1, 0, 1, 0), False)
        self.assert_run(("ab", "ba"), "aab", 0, (-1, 0, 1, 0), False)
        for number in (-1, -2, -3):
            self.assert_run(LATER, "", 0, (number,), False)
            self.assert_run(("ab", "ba"), "", 0, (number,), False)

    def test_other_kinds(self):
        for run in NO_TUPLES + ([0, 1], {0, 1}, "01", b"\0\1", ((0, 1),), range(2), {0: 0, 1: 1}, iter((0, 1))):
            self.assert_run(LATER, "a", 1, run, False)

    def test_24_letters(self):
        run = (0, 1) * 12 + (0,)
        self.assert_run(("aa",), "a" * 24, 1, run, True)
        self.assert_run(("aa",), "a" * 24, 23, run, True)
        self.assert_run(("aa",), "a" * 24, 24, run, False)
        self.assert_run(("aa",), "a" * 24, 1, run + (1,), False)
        self.assert_run(("aa",), "a" * 24, 1, run[:-1], False)


class Judge(CodeCase):
    """Point 62: values of all kinds are judged."""

    def test_other_words_in_front(self):
        sets = (KnownSets.AHEAD, KnownSets.BEHIND)
        for word in ("", "Known", "known ", "open", None, True, 0, b"known", ("known",), ["known"]):
            self.assert_same(accepts_place(LATER, "aab", 1, (word,) + sets), False)
        for word in ("", "Open", "open ", "known", None, True, 0, b"open", ("open",), ["open"]):
            self.assert_same(accepts_place(LATER, "a", 1, (word, (0, 1))), False)

    def test_lists_and_other_lengths(self):
        for code, string, place in ((LATER, "aab", 1), (LATER, "a", 1), ((), "", 0), (("aa",), "aa", 2)):
            told = place_evidence(code, string, place)
            self.assert_same(accepts_place(code, string, place, told), True)
            for value in (list(told), told[:-1], told + told[-1:], told + (None,), told[1:], told[::-1], (told,), told[:1], ()):
                self.assert_same(accepts_place(code, string, place, value), False)

    def test_all_other_kinds(self):
        for value in NO_TUPLES + ("known", "open", object(), ("known",), ("open",), ("known", (), ()), ("open", ())):
            for code, string, place in (((), "", 0), (("a",), "a", 1), (LATER, "aab", 1), (LATER, "a", 1)):
                self.assert_same(accepts_place(code, string, place, value), False)


if __name__ == "__main__":
    unittest.main()
