"""Points 97 and 98: steps that lead from one string to another, and the distance of strings."""

import functools
import itertools
import random
import unittest

from syncedwords.distance import distance, led
from tests.oracle import LONG, CodeCase, strings_up_to

KEEP, DROP = ("keep",), ("drop",)
STEPS = (KEEP, DROP) + tuple((action, letter) for action in ("change", "put") for letter in "abc")


def listed_led(string, steps):
    """What the steps lead to, told by taking the letters one by one off a list."""
    letters = list(string)
    found = []
    for step in steps:
        if step[0] == "put":
            found.append(step[1])
        elif not letters:
            return None
        elif step[0] == "keep":
            found.append(letters.pop(0))
        else:
            letters.pop(0)
            found += step[1:]
    return None if letters else "".join(found)


def reached_with(string):
    """All strings to which steps with exactly one error lead from the string."""
    found = set()
    for at in range(len(string) + 1):
        for letter in "abc":
            found.add(string[:at] + letter + string[at:])
            if at < len(string):
                found.add(string[:at] + letter + string[at + 1:])
        if at < len(string):
            found.add(string[:at] + string[at + 1:])
    return found


@functools.lru_cache(None)
def plain_distance(first, second):
    """The least number of errors, by the first step and what is left behind it."""
    if not first or not second:
        return len(first) + len(second)
    changed = plain_distance(first[1:], second[1:]) + (first[0] != second[0])
    return min(changed, plain_distance(first[1:], second) + 1, plain_distance(first, second[1:]) + 1)


def chosen_strings(many, seed, least=0, most=24, letters="abc"):
    numbers = random.Random(seed)
    return ["".join(numbers.choices(letters, k=numbers.randrange(least, most + 1))) for _ in range(many)]


class Led(CodeCase):
    """Point 97."""

    def test_each_kind_of_step(self):
        for string, steps, expected in (
            ("a", (KEEP,), "a"), ("a", (DROP,), ""), ("a", (("change", "b"),), "b"), ("a", (("change", "a"),), "a"),
            ("", (("put", "c"),), "c"), ("", (), ""), ("ab", (("put", "c"), KEEP, KEEP), "cab"), ("ab", (KEEP, ("put", "c"), KEEP), "acb"),
            ("ab", (KEEP, KEEP, ("put", "c")), "abc"), ("ab", (DROP, DROP), ""), ("aab", (DROP, KEEP, KEEP), "ab"),
            ("abc", (("change", "c"), DROP, ("put", "b"), ("put", "b"), KEEP, ("put", "a")), "cbbca"),
            ("ab", (("put", "c"), ("put", "b"), DROP, ("change", "c"), ("put", "a"), ("put", "a")), "cbcaa"),
        ):
            self.assert_same(led(string, steps), expected)

    def test_too_few_and_too_many_letters(self):
        for string, steps in (
            ("a", ()), ("aab", (KEEP,)), ("aab", (KEEP, KEEP)), ("aab", (DROP, ("put", "a"), KEEP)), ("a", (("put", "a"),)), ("ab", (("change", "c"),)),
            ("", (KEEP,)), ("", (DROP,)), ("", (("change", "a"),)), ("a", (KEEP, KEEP)), ("a", (DROP, DROP)), ("a", (KEEP, ("change", "b"))),
            ("a", (("put", "a"), DROP, ("put", "a"), DROP)), ("aab", (KEEP, KEEP, KEEP, DROP)), ("aab", (KEEP, KEEP, KEEP, ("put", "a"), KEEP)),
        ):
            self.assert_same(led(string, steps), None)

    def test_all_steps_of_short_strings(self):
        for many in range(4):
            for steps in itertools.product(STEPS, repeat=many):
                for string in ("", "a", "ba", "abc", "cabb"):
                    self.assert_same(led(string, steps), listed_led(string, steps))

    def test_many_steps(self):
        numbers = random.Random(240)
        for string in chosen_strings(300, 241):
            steps = [numbers.choice(STEPS[:5]) for _ in string]
            for _ in range(numbers.randrange(0, 100 - len(steps))):
                steps.insert(numbers.randrange(len(steps) + 1), numbers.choice(STEPS[5:]))
            self.assertIsNotNone(listed_led(string, steps))
            for taken in (steps, steps[1:], steps[:-1], steps + [KEEP], steps + [("put", "a")]):
                self.assert_same(led(string, tuple(taken[:100])), listed_led(string, taken[:100]))

    def test_100_steps(self):
        self.assert_same(led("", (("put", "b"),) * 100), "b" * 100)
        self.assert_same(led(LONG, (KEEP,) * 24 + (("put", "a"),) * 76), LONG + "a" * 76)
        self.assert_same(led(LONG, (("put", "a"),) * 76 + (DROP,) * 24), "a" * 76)
        self.assert_same(led(LONG, (DROP,) * 100), None)


class Distance(CodeCase):
    """Point 98."""

    def test_against_a_listing_of_steps(self):
        """From each string one error more and one more, until all short strings have been come to."""
        short = strings_up_to(3)
        for first in short:
            found = {first: 0}
            row = {first}
            for errors in (1, 2, 3):
                row = {string for other in row for string in reached_with(other)} - set(found)
                found.update((string, errors) for string in row)
            for second in short:
                self.assert_same(distance(first, second), found[second])

    def test_by_the_first_step(self):
        for first in strings_up_to(4, "ab"):
            for second in strings_up_to(5, "ab"):
                self.assert_same(distance(first, second), plain_distance(first, second))
        strings = chosen_strings(150, 242)
        for first, second in zip(strings, strings[1:]):
            self.assert_same(distance(first, second), plain_distance(first, second))

    def test_24_letters(self):
        strings = chosen_strings(20, 243, 24)
        for first, second in itertools.product(strings, repeat=2):
            self.assert_same(distance(first, second), plain_distance(first, second))
        for first, second, expected in (
            ("a" * 24, "b" * 24, 24), ("a" * 24, "", 24), ("", LONG, 24), (LONG, LONG[1:] + "a", 2), (LONG, LONG[2:] + "ab", 2),
            ("a" * 24, "a" * 23, 1), ("ab" * 12, "ba" * 12, 2), ("a" * 12 + "b" * 12, "b" * 12 + "a" * 12, 24), (LONG, "a" * 24, 16),
        ):
            self.assert_same(distance(first, second), expected)

    def test_equal_strings_and_the_empty_one(self):
        for string in strings_up_to(3) + chosen_strings(40, 244):
            self.assert_same(distance(string, string), 0)
            self.assert_same(distance(string, ""), len(string))
            self.assert_same(distance("", string), len(string))

    def test_in_both_directions_and_by_way_of_a_third_string(self):
        numbers = random.Random(245)
        strings = strings_up_to(2) + chosen_strings(60, 246)
        for _ in range(400):
            first, second, third = numbers.choices(strings, k=3)
            found = distance(first, second)
            self.assertEqual(found, distance(second, first))
            self.assertLessEqual(found, distance(first, third) + distance(third, second))
            self.assertLessEqual(found, max(len(first), len(second)))
            self.assertEqual(found == 0, first == second)

    def test_cases(self):
        for first, second, expected in (("abc", "ac", 1), ("", "abab", 4), ("aab", "ab", 1), ("abab", "baba", 2), ("abc", "cba", 2), ("abca", "bcab", 2), ("", "", 0)):
            self.assert_same(distance(first, second), expected)


if __name__ == "__main__":
    unittest.main()
