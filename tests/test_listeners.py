"""Points 53 to 56, 59 to 61, 63 and 64: runs of strings, and what is known of what was heard."""

import itertools
import random
import unittest

from syncedwords.listeners import first_known, is_observable, known_boundaries, known_words, next_letters
from syncedwords.listeners import observable_rest, states_at
from syncedwords.parses import is_message
from syncedwords.sync import delay, is_synced, states
from tests.families import FIVE, PERIODIC, chosen_codes, small_codes
from tests.oracle import CODES, CodeCase, leads, strings_up_to

POWERS = ("a", "aa", "aaa", "aaaa", "aaaaa")


def all_runs(code, string):
    """All runs of the string, letter by letter."""
    numbers = {state: number for number, state in enumerate(states(code))}
    runs = [(number,) for number in range(len(numbers))]
    for letter in string:
        ways = [(numbers[here], numbers[there]) for here, there in leads(code, letter)]
        runs = [run + (there,) for run in runs for here, there in ways if here == run[-1]]
    return runs


def all_readings(code, string):
    """All ways in which the string stands in a message: pairs of the places of boundaries and the whole words."""
    if not code:
        return [(frozenset([0]), frozenset())] if string == "" else []
    found = []
    waiting = []
    for word in code:
        for gone in range(1, len(word)):
            waiting.append((0, word[gone:], None, frozenset(), frozenset()))
    waiting += [(0, word, number, frozenset([0]), frozenset()) for number, word in enumerate(code)]
    while waiting:
        place, left, number, places, words = waiting.pop()
        rest = string[place:]
        if left.startswith(rest) and len(left) > len(rest):
            found.append((places, words))
        elif rest.startswith(left):
            there = place + len(left)
            if number is not None:
                words = words | {(place, number)}
            places = places | {there}
            if there == len(string):
                found.append((places, words))
            else:
                waiting += [(there, word, further, places, words) for further, word in enumerate(code)]
    return found


def samples():
    """Codes with short strings, observable ones and others."""
    for code in CODES + (("a", "ab"), ("aab", "ab", "abb"), ("abc", "ab", "c"), ("b", "aba")):
        for string in strings_up_to(3) + ["aaba", "abab", "abba", "baab", "aabab", "abcab", "bcabc", "aaaaa", "ccbcbc"]:
            yield code, string
    for code in small_codes()[::4]:
        for string in strings_up_to(4, "ab"):
            yield code, string


def long_samples():
    """Codes with strings of up to 24 letters that stand in messages, and with some that do not."""
    numbers = random.Random(70)
    codes = list(CODES) + [FIVE, PERIODIC, ("a", "ab"), POWERS, ("ab",), ("aab", "ab", "abb"), ("b", "aba")]
    for code in codes + chosen_codes(60, 71) + chosen_codes(60, 72, "ab", 4):
        if code:
            for _ in range(4):
                message = "".join(numbers.choice(code) for _ in range(30))
                begin = numbers.randrange(5)
                string = message[begin:begin + 24]
                yield code, string
                place = numbers.randrange(len(string) or 1)
                yield code, string[:place] + numbers.choice("abc") + string[place + 1:]
                yield code, string[:numbers.randrange(25)]


def can_end(code, string):
    """For each place, whether the letters ahead of it can be the end of a message."""
    found = [True]
    for place in range(1, len(string) + 1):
        ahead = string[:place]
        found.append(any(
            word.endswith(ahead) or (ahead.endswith(word) and found[place - len(word)]) for word in code
        ))
    return found


def can_begin(code, string):
    """For each place, whether the letters behind it can be the beginning of a message."""
    turned = can_end(tuple(word[::-1] for word in code), string[::-1])
    return turned[::-1]


def stands_at(string, word, place):
    """Tell whether the word can stand at the place, which may be ahead of the string, as far as letters are in it."""
    return all(
        string[place + at] == letter for at, letter in enumerate(word) if 0 <= place + at < len(string)
    )


def possible_words(code, string):
    """All pairs of a place, also ahead of the string, and a word that stands there in some message."""
    end, begin = can_end(code, string), can_begin(code, string)
    many = len(string)
    return [
        (place, number) for number, word in enumerate(code) for place in range(1 - len(word), many)
        if stands_at(string, word, place) and end[max(place, 0)] and begin[min(place + len(word), many)]
    ]


def listed_knowledge(code, string):
    """The known boundaries and words, of all readings, or None if there is none."""
    readings = all_readings(code, string)
    if not readings:
        return None
    places = frozenset.intersection(*[places for places, _ in readings])
    words = frozenset.intersection(*[words for _, words in readings])
    return tuple(sorted(places)), tuple(sorted(words))


class Runs(CodeCase):
    """Points 53 and 54."""

    def test_states_at_each_place(self):
        for code, string in samples():
            runs = all_runs(code, string)
            self.assert_same(is_observable(code, string), len(runs) > 0)
            for place in range(len(string) + 1):
                if runs:
                    expected = tuple(sorted({run[place] for run in runs}))
                    self.assert_same(states_at(code, string, place), expected)

    def test_as_messages_are(self):
        for code, string in samples():
            self.assert_same(is_observable(code, string), len(all_readings(code, string)) > 0)

    def test_parts_of_messages(self):
        for code in CODES:
            messages = [string for string in strings_up_to(5, "ab") if is_message(code, string)]
            for message in messages:
                for begin in range(len(message) + 1):
                    for end in range(begin, len(message) + 1):
                        self.assert_same(is_observable(code, message[begin:end]), True)

    def test_cases(self):
        self.assert_same(states_at(("a", "ab"), "a", 0), (0,))
        self.assert_same(states_at(("a", "ab"), "a", 1), (0, 1))
        self.assert_same(states_at(("a", "ab"), "", 0), (0, 1))
        self.assert_same(states_at(("a", "ab"), "ba", 0), (1,))
        self.assert_same(states_at(("abc",), "", 0), (0, 1, 2))
        self.assert_same(states_at(("abc",), "b", 0), (1,))
        self.assert_same(states_at(("ab", "ac"), "a", 1), (1, 2))
        self.assert_same(states_at(("ab", "ac"), "c", 0), (2,))
        self.assert_same(states_at(("aa",), "aaa", 3), (0, 1))

    def test_the_empty_string(self):
        for code in CODES + (FIVE, PERIODIC):
            self.assert_same(is_observable(code, ""), True)
            self.assert_same(states_at(code, "", 0), tuple(range(len(states(code)))))

    def test_the_code_without_words(self):
        self.assert_same(is_observable((), ""), True)
        self.assert_same(states_at((), "", 0), (0,))
        self.assert_same(known_boundaries((), ""), (0,))
        self.assert_same(known_words((), ""), ())
        self.assert_same(first_known((), ""), 0)
        self.assert_same(next_letters((), ""), "")
        for string in strings_up_to(2)[1:] + ["abc" * 8]:
            self.assert_same(is_observable((), string), False)
            self.assert_same(known_boundaries((), string), None)
            self.assert_same(known_words((), string), None)
            self.assert_same(first_known((), string), None)
            self.assert_same(next_letters((), string), None)
            self.assert_same(observable_rest((), string), "")

    def test_words_of_one_letter(self):
        for code in (("a",), ("b", "a"), ("a", "b", "c")):
            for string in strings_up_to(3) + ["abc" * 8, "a" * 24, "ab" * 12]:
                if all(letter in code for letter in string):
                    self.assert_same(known_boundaries(code, string), tuple(range(len(string) + 1)))
                    expected = tuple((place, code.index(letter)) for place, letter in enumerate(string))
                    self.assert_same(known_words(code, string), expected)
                    self.assert_same(first_known(code, string), 0)
                    self.assert_same(next_letters(code, string), "".join(sorted(code)))
                else:
                    self.assert_same(is_observable(code, string), False)

    def test_a_word_of_one_letter_among_others(self):
        code = ("a", "b", "c", "abc")
        for string in strings_up_to(4) + ["aabcab", "cabcb", "bcabcc"]:
            expected = listed_knowledge(code, string)
            self.assert_same(known_boundaries(code, string), expected[0])
            self.assert_same(known_words(code, string), expected[1])


class Known(CodeCase):
    """Point 54: known boundaries and words against all runs, and against all messages."""

    def test_boundaries_by_runs(self):
        for code, string in samples():
            runs = all_runs(code, string)
            expected = tuple(
                place for place in range(len(string) + 1) if all(run[place] == 0 for run in runs)
            ) if runs else None
            self.assert_same(known_boundaries(code, string), expected)

    def test_words_by_runs(self):
        for code, string in samples():
            runs = all_runs(code, string)
            self.assert_same(known_words(code, string), self.words_of_runs(code, string, runs) if runs else None)

    def words_of_runs(self, code, string, runs):
        found = []
        for place in range(len(string)):
            for number, word in enumerate(code):
                along = (0,) + tuple(states(code).index((number, at)) for at in range(1, len(word))) + (0,)
                if string[place:].startswith(word):
                    if all(run[place:place + len(word) + 1] == along for run in runs):
                        found.append((place, number))
        return tuple(found)

    def test_by_messages(self):
        for code, string in samples():
            expected = listed_knowledge(code, string)
            self.assert_same(known_boundaries(code, string), expected and expected[0])
            self.assert_same(known_words(code, string), expected and expected[1])

    def test_long_strings(self):
        longest = 0
        for code, string in long_samples():
            longest = max(longest, len(string))
            words = possible_words(code, string)
            if string == "" or not words:
                continue
            self.assert_same(is_observable(code, string), True)
            covered = {at for place, number in words for at in range(place + 1, place + len(code[number]))}
            places = tuple(place for place in range(len(string) + 1) if place not in covered)
            self.assert_same(known_boundaries(code, string), places)
            inside = [
                (place, number) for place, number in words if place >= 0 and place + len(code[number]) <= len(string)
            ]
            expected = tuple(sorted(
                (place, number) for place, number in inside
                if not any(other != (place, number) and self.overlap(code, other, (place, number)) for other in words)
            ))
            self.assert_same(known_words(code, string), expected)
        self.assertEqual(longest, 24)

    def overlap(self, code, one, other):
        first, second = one[0] + len(code[one[1]]), other[0] + len(code[other[1]])
        return one[0] < second and other[0] < first

    def test_long_strings_that_are_not_observable(self):
        seen = 0
        for code, string in long_samples():
            if string and not possible_words(code, string):
                seen += 1
                self.assert_same(is_observable(code, string), False)
                self.assert_same(known_boundaries(code, string), None)
                self.assert_same(known_words(code, string), None)
                self.assert_same(first_known(code, string), None)
                self.assert_same(next_letters(code, string), None)
        self.assertGreater(seen, 50)

    def test_cases(self):
        for code, string, places, words in (
            (("a", "ab"), "aab", (0, 1, 3), ((0, 0), (1, 1))),
            (("a", "ab"), "a", (0,), ()),
            (("a", "ab"), "ab", (0, 2), ((0, 1),)),
            (("a", "ab"), "ba", (1,), ()),
            (("a", "ab"), "", (), ()),
            (("ab", "ba"), "aba", (), ()),
            (("ab", "ba"), "aa", (1,), ()),
            (("ab", "ba"), "abba", (0, 2, 4), ((0, 0), (2, 1))),
            (("a", "b", "ab"), "ab", (0, 2), ()),
            (("a", "b", "ab"), "b", (1,), ()),
            (("a", "b", "ab"), "ba", (1,), ()),
            (("a", "b", "ab"), "bb", (1, 2), ((1, 1),)),
            (("abc",), "cab", (1,), ()),
            (("abc",), "cabc", (1, 4), ((1, 0),)),
            (("aa",), "a" * 24, (), ()),
            (("ab",), "ab" * 12, tuple(range(0, 25, 2)), tuple((place, 0) for place in range(0, 24, 2))),
            (POWERS, "a" * 24, (), ()),
        ):
            with self.subTest(code=code, string=string):
                self.assert_same(known_boundaries(code, string), places)
                self.assert_same(known_words(code, string), words)

    def test_not_observable(self):
        for code, string in ((("a", "ab"), "bb"), (("ab", "ba"), "aaa"), (("ab",), "aa"), (("a",), "b"), (("abc",), "ba")):
            self.assert_same(is_observable(code, string), False)
            self.assert_same(known_boundaries(code, string), None)
            self.assert_same(known_words(code, string), None)
            self.assert_same(first_known(code, string), None)
            self.assert_same(next_letters(code, string), None)


class Stays(CodeCase):
    """Point 55."""

    def test_with_letters_in_front_and_behind(self):
        for code in CODES + tuple(small_codes()[::6]):
            for string in strings_up_to(3, "ab"):
                if is_observable(code, string):
                    self.compare(code, string)

    def compare(self, code, string):
        places, words = known_boundaries(code, string), known_words(code, string)
        for front in strings_up_to(2, "ab"):
            for back in strings_up_to(2, "ab"):
                longer = front + string + back
                if is_observable(code, longer):
                    there = known_boundaries(code, longer)
                    for place in places:
                        self.assertIn(place + len(front), there)
                    for place, number in words:
                        self.assertIn((place + len(front), number), known_words(code, longer))

    def test_while_letters_come(self):
        for code, string in long_samples():
            if is_observable(code, string):
                for many in range(len(string)):
                    self.assertTrue(
                        set(known_boundaries(code, string[:many])) <= set(known_boundaries(code, string[:many + 1]))
                    )


class BehindTheDelay(CodeCase):
    """Point 56."""

    def test_short_strings(self):
        for code in small_codes():
            if is_synced(code) and delay(code) <= 7:
                for string in ("".join(row) for row in itertools.product("ab", repeat=delay(code))):
                    if is_observable(code, string):
                        self.assertNotEqual(known_boundaries(code, string), ())
                        self.assertLessEqual(first_known(code, string), delay(code))

    def test_long_strings(self):
        seen = 0
        for code, string in long_samples():
            if is_synced(code) and is_observable(code, string) and len(string) >= delay(code):
                seen += 1
                for begin in range(len(string) - delay(code) + 1):
                    part = string[begin:begin + delay(code)]
                    self.assertNotEqual(known_boundaries(code, part), ())
        self.assertGreater(seen, 100)


class FirstKnown(CodeCase):
    """Point 59."""

    def test_by_all_beginnings(self):
        for code, string in samples():
            if not all_readings(code, string):
                self.assert_same(first_known(code, string), None)
                continue
            expected = None
            for many in range(len(string), -1, -1):
                if listed_knowledge(code, string[:many])[0]:
                    expected = many
            self.assert_same(first_known(code, string), expected)

    def test_cases(self):
        for code, string, expected in (
            (("a", "ab"), "aab", 1), (("a", "ab"), "", None), (("a",), "", 0), (("a",), "aaa", 0), (("ab",), "b", 1),
            (("ab",), "a", 1), (("abc",), "bca", 2), (("a", "ab", "abb"), "bb", 2), (("a", "ab", "abb"), "b", None),
            (("ab", "ba"), "ab" * 12, None), (("ab", "ba"), "ab" * 11 + "ba", 23), (("ab", "ba"), "ab" * 11 + "b", 23),
            (("ab", "ba"), "abb", 3), (("aa",), "a" * 24, None), (("a", "ba", "bb"), "b" * 10 + "a", 11),
        ):
            with self.subTest(code=code, string=string):
                self.assert_same(first_known(code, string), expected)

    def test_long_strings(self):
        for code, string in long_samples():
            if is_observable(code, string):
                numbers = [many for many in range(len(string) + 1) if known_boundaries(code, string[:many])]
                self.assert_same(first_known(code, string), min(numbers, default=None))


class ObservableRest(CodeCase):
    """Point 60."""

    def test_by_all_rests(self):
        for code, string in samples():
            rests = [string[gone:] for gone in range(len(string) + 1)]
            expected = max([rest for rest in rests if all_readings(code, rest)], key=len)
            self.assert_same(observable_rest(code, string), expected)

    def test_observable_at_all_in_part_and_not(self):
        for code, string, expected in (
            (("a", "ab"), "aab", "aab"), (("a", "ab"), "abba", "ba"), (("a", "ab"), "abb", "b"), (("a", "ab"), "abc", ""),
            (("a", "ab"), "cab", "ab"), (("a", "ab"), "", ""), (("a",), "b", ""), (("a",), "ba" * 12, "a"),
            (("ab", "ba"), "aaaab", "aab"), (("abc",), "abc" * 8, "abc" * 8), (("abc",), "b" + "abc" * 7 + "ab", "abc" * 7 + "ab"),
            ((), "abc", ""),
        ):
            self.assert_same(observable_rest(code, string), expected)

    def test_long_strings(self):
        for code, string in long_samples():
            rest = observable_rest(code, string)
            self.assertTrue(string.endswith(rest))
            self.assertTrue(is_observable(code, rest))
            if rest != string:
                self.assertFalse(is_observable(code, string[len(string) - len(rest) - 1:]))


class NextLetters(CodeCase):
    """Point 61."""

    def test_in_order(self):
        for code, string in samples():
            expected = None
            if all_readings(code, string):
                expected = "".join(letter for letter in "abc" if all_readings(code, string + letter))
                if code:
                    self.assertNotEqual(expected, "")
            self.assert_same(next_letters(code, string), expected)

    def test_cases(self):
        for code, string, expected in (
            (("a", "ab"), "ab", "a"), (("a", "ab"), "a", "ab"), (("c", "b", "a"), "", "abc"), (("cb", "a"), "", "abc"),
            (("cb", "a"), "c", "b"), (("cb", "a"), "b", "ac"), (("cb", "a"), "bb", None), ((), "", ""), (("ab",), "bb", None),
        ):
            self.assert_same(next_letters(code, string), expected)

    def test_behind_24_letters(self):
        for code, string in long_samples():
            if string and possible_words(code, string):
                expected = "".join(letter for letter in "abc" if possible_words(code, string + letter))
                self.assert_same(next_letters(code, string), expected)
                self.assertNotEqual(expected, "")


class TwoListeners(CodeCase):
    """Point 63."""

    def test_the_same_behind_a_boundary_known_to_both(self):
        for code in (("a", "ab"), ("ab", "ba"), ("a", "ab", "abb"), ("a", "aa"), ("aab", "ab"), ("a", "ab", "bb"), ("b", "aba")):
            fronts = strings_up_to(3, "ab")
            for back in strings_up_to(3, "ab"):
                told = set()
                for front in fronts:
                    if is_observable(code, front + back):
                        places = known_boundaries(code, front + back)
                        if len(front) in places:
                            behind = tuple(place - len(front) for place in places if place >= len(front))
                            words = tuple(
                                (place - len(front), number) for place, number in known_words(code, front + back)
                                if place >= len(front)
                            )
                            told.add((behind, words))
                self.assertLessEqual(len(told), 1)


class Example(CodeCase):
    """Point 64."""

    def test_what_is_known(self):
        code = ("a", "ab")
        self.assert_same(states(code), [None, (1, 1)])
        self.assert_same(known_boundaries(code, "aab"), (0, 1, 3))
        self.assert_same(known_words(code, "aab"), ((0, 0), (1, 1)))
        self.assert_same(is_observable(code, "bb"), False)


if __name__ == "__main__":
    unittest.main()
