"""Points 99 to 104 and 106: the nearest messages, their evidence, and the first error."""

import heapq
import itertools
import random
import unittest

from syncedwords.correction import accepts_errors, correction, errors_evidence, first_error, least_errors
from syncedwords.distance import distance, led
from syncedwords.parses import is_message
from tests.families import FIVE, chosen_codes, small_codes
from tests.oracle import CODES, LONG, CodeCase, all_states, leads, strings_up_to
from tests.test_distance import chosen_strings, plain_distance, reached_with

KEEP, DROP = ("keep",), ("drop",)
PAIR = ("ab", "ba")
OTHER_KINDS = (None, True, False, 0, 1, "", "ab", (), [], {}, b"", object(), ((),), ((), ()), ((), (), (), ()), (None, None, None), ("", "", ""))


def messages_up_to(code, most):
    """All messages of at most so many letters, in order by length."""
    rows = [{""}]
    for many in range(1, most + 1):
        rows.append({word + rest for word in code if len(word) <= many for rest in rows[many - len(word)]})
    return [string for row in rows for string in sorted(row)]


def nearest(code, string):
    """The least errors, and the first nearest message, from a list of messages."""
    found = [(plain_distance(string, message), len(message), message) for message in messages_up_to(code, 2 * len(string))]
    return min(found)[0], min(found)[2]


def searched(code, string, place=0, state=()):
    """The same, from a place and a state on, by going on from there, the fewest errors and the first messages first."""
    waiting = [(0, 0, "", place, state)]
    done = set()
    while True:
        errors, letters, sent, place, state = heapq.heappop(waiting)
        if (place, state) in done:
            continue
        done.add((place, state))
        if (place, state) == (len(string), ()):
            return errors, sent
        if place < len(string):
            heapq.heappush(waiting, (errors + 1, letters, sent, place + 1, state))
        for letter in "abc":
            for here, there in leads(code, letter):
                if (here or ()) == state:
                    heapq.heappush(waiting, (errors + 1, letters + 1, sent + letter, place, there or ()))
                    if place < len(string):
                        cost = 0 if string[place] == letter else 1
                        heapq.heappush(waiting, (errors + cost, letters + 1, sent + letter, place + 1, there or ()))


def string_of_words(code, parse):
    return "".join(code[number] for number in parse)


def are_right(code, string, floors):
    """Right floors, by the words of point 101, with the states and where letters lead as pairs."""
    listed = all_states(code)
    many = len(string)
    if type(floors) is not tuple or len(floors) != many + 1:
        return False
    for row in floors:
        if type(row) is not tuple or len(row) != len(listed) or any(type(number) is not int for number in row):
            return False
    at = [dict(zip(listed, row)) for row in floors]
    right = at[many][None] <= 0
    for place in range(many + 1):
        for state in listed:
            if place < many:
                right = right and at[place][state] <= at[place + 1][state] + 1
            for letter in "abc":
                for here, there in leads(code, letter):
                    if here == state:
                        right = right and at[place][state] <= at[place][there] + 1
                        if place < many:
                            cost = 0 if string[place] == letter else 1
                            right = right and at[place][state] <= at[place + 1][there] + cost
    return right


def chosen_pairs(many, seed, most=5):
    """Pairs of a code and a short string."""
    numbers = random.Random(seed)
    codes = chosen_codes(many, seed + 1, "abc", 5, 4) + list(CODES)
    pairs = []
    for code in codes:
        top = 3 if sum(1 for word in code if len(word) < 3) > 2 else most
        pairs.append((code, "".join(numbers.choices("abc", k=numbers.randrange(0, top + 1)))))
    return pairs


class Least(CodeCase):
    """Points 99 and 100."""

    def assert_nearest(self, code, string):
        with self.subTest(code=code, string=string):
            errors, message = nearest(code, string)
            self.assert_same(least_errors(code, string), errors)
            self.assert_same(correction(code, string), message)

    def test_against_a_listing(self):
        for code in [code for code in small_codes() if len(code) < 3][::2] + [("aab", "abb", "bab"), ("ab", "ba", "bba")]:
            for string in strings_up_to(3, "ab") + ["abab", "bbaa", "c", "acb"]:
                self.assert_nearest(code, string)
        for code, string in chosen_pairs(400, 250):
            self.assert_nearest(code, string)

    def test_longer_strings(self):
        numbers = random.Random(252)
        for code in chosen_codes(60, 253, "abc", 5, 3):
            long = tuple(word for word in code if len(word) > 2)
            for many in (6, 7):
                self.assert_nearest(long, "".join(numbers.choices("abc", k=many)))

    def test_words_of_five_letters(self):
        for code in (("abcab",), ("abcab", "bcabc"), ("aaaaa", "bbbbb", "ccccc"), FIVE, ("aabba", "bbaab", "ababa")):
            for string in strings_up_to(2) + ["abc", "abcab", "aabb", "cabca", "bcbcb", "abcabb", "acbabc"]:
                self.assert_nearest(code, string)
        self.assert_same((least_errors(("abcab",), "abcb"), correction(("abcab",), "abcb")), (1, "abcab"))

    def test_without_words(self):
        for string in strings_up_to(3) + [LONG, "a" * 24]:
            self.assert_same(least_errors((), string), len(string))
            self.assert_same(correction((), string), "")

    def test_with_one_word(self):
        for code, string, errors, message in (
            (("a",), "", 0, ""), (("a",), "aaa", 0, "aaa"), (("a",), "b", 1, ""), (("a",), "bab", 2, "a"), (("ab",), "a", 1, ""), (("ab",), "aba", 1, "ab"),
            (("ab",), "ba", 2, ""), (("ab",), "bab", 1, "ab"), (("abc",), "ab", 1, "abc"), (("abc",), LONG, 0, LONG), (("abc",), LONG[1:], 1, LONG),
            (("aaaaa",), "aa", 2, ""), (("aaaaa",), "aaa", 2, "aaaaa"), (("aaaaa",), "a" * 24, 1, "a" * 25), (("aaaaa",), "b" * 24, 24, ""),
        ):
            self.assert_same(least_errors(code, string), errors)
            self.assert_same(correction(code, string), message)

    def test_a_message_is_its_own_correction(self):
        numbers = random.Random(254)
        for code in chosen_codes(150, 255) + [("a", "ab", "ba"), ("a", "b", "c")]:
            message = ""
            while len(message) < 20:
                message += numbers.choice(code)
                if len(message) <= 24:
                    self.assert_same(least_errors(code, message), 0)
                    self.assert_same(correction(code, message), message)

    def test_0_exactly_for_messages(self):
        for code in small_codes()[::3] + list(CODES):
            for string in strings_up_to(3):
                self.assertEqual(least_errors(code, string) == 0, is_message(code, string))

    def test_24_letters(self):
        for code in chosen_codes(150, 256) + [PAIR, ("a", "ab"), FIVE, ("a", "b", "c"), ("abcab", "bcabc")]:
            for string in chosen_strings(2, len(code) + 257, 24) + [LONG]:
                errors, message = searched(code, string)
                self.assert_same(least_errors(code, string), errors)
                self.assert_same(correction(code, string), message)
                self.assertEqual(plain_distance(string, message), errors)

    def test_more_letters_than_the_string(self):
        for code, string in (
            (("abcab",), "abcb"), (("aaaaa",), "aaa"), (("aaaaa",), "a" * 23), (("aaaaa",), "a" * 24), (("abcab",), "abca" * 6), (("abcab",), "bcab" * 6),
            (("abcab",), "abca" * 5), (("abcca",), "abca" * 6), (("aaaab",), "aaab" * 6), (("ababa",), "bab" * 8), (("abccc",), "abc" * 8),
        ):
            self.assert_nearest(code, string)
        for code, string, message in (
            (("abcab",), "abcb", "abcab"), (("aaaaa",), "aaa", "aaaaa"), (("aaaaa",), "a" * 23, "a" * 25), (("abcab",), "abcb" * 6, "abcab" * 6),
            (("abcca",), "abca" * 6, "abcca" * 6), (("abcca", "b"), "abca" * 6, "abcca" * 6),
        ):
            self.assert_same(correction(code, string), message)

    def test_at_most_twice_as_many_letters(self):
        for code, string in chosen_pairs(300, 258):
            self.assertLessEqual(len(correction(code, string)), 2 * len(string))

    def test_the_first_one_of_several(self):
        for code, string, message in (
            (("a", "b"), "c", ""), (("ab", "ba"), "b", ""), (("b", "a"), "ac", "a"), (("bb", "ab"), "cb", "ab"), (("ab", "ac"), "aa", "ab"),
            (("ac", "ab"), "aa", "ab"), (("abb", "aab"), "ab", "aab"), (("bab", "aab"), "ab", "aab"), (("ba", "bb"), "bc", "ba"), (("bbb", "aaa"), "ab", ""),
            (("abc", "acb"), "ab", "abc"), (("abc", "acb"), "acc", "abc"), (("cab", "a"), "cb", "cab"),
        ):
            self.assert_same(correction(code, string), message)
            self.assertEqual(nearest(code, string)[1], message)

    def test_one_letter_put_in_left_out_or_changed(self):
        for code, string in chosen_pairs(80, 259) + [(code, LONG[:20]) for code in chosen_codes(10, 260)]:
            errors = least_errors(code, string)
            self.assertLessEqual(errors, len(string))
            for other in sorted(reached_with(string)):
                self.assertLessEqual(abs(least_errors(code, other) - errors), 1)


class Evidence(CodeCase):
    """Points 101, 102 and 103."""

    def test_what_is_returned_is_accepted(self):
        for code, string in chosen_pairs(200, 261) + [(code, LONG) for code in chosen_codes(30, 262)] + [((), LONG), ((), "")]:
            with self.subTest(code=code, string=string):
                errors = least_errors(code, string)
                value = errors_evidence(code, string)
                self.assert_form(code, string, value, errors)
                for number in range(25):
                    self.assert_same(accepts_errors(code, string, number, value), number == errors)

    def assert_form(self, code, string, value, errors):
        self.assertIs(type(value), tuple)
        parse, steps, floors = value
        self.assertIs(type(parse), tuple)
        self.assertIs(type(steps), tuple)
        self.assertLessEqual(max(len(parse), len(steps)), 100)
        self.assertEqual(led(string, steps), string_of_words(code, parse))
        self.assertEqual(sum(1 for step in steps if step != KEEP), errors)
        self.assertTrue(are_right(code, string, floors))
        self.assertGreaterEqual(floors[0][0], errors)

    def test_a_number_more_or_less_at_each_place(self):
        for code, string in chosen_pairs(60, 263) + [(PAIR, "aab"), (("a",), ""), (("abc",), "ab"), (("a", "b"), "abcc")]:
            parse, steps, floors = errors_evidence(code, string)
            errors = least_errors(code, string)
            for place, row in enumerate(floors):
                for state, number in enumerate(row):
                    for other in (number + 1, number - 1, number - 2, -5, 0, 1, 10 ** 30, -10 ** 30):
                        changed = floors[:place] + (row[:state] + (other,) + row[state + 1:],) + floors[place + 1:]
                        self.assert_judged(code, string, errors, (parse, steps, changed))

    def assert_judged(self, code, string, errors, value):
        expected = are_right(code, string, value[2]) and value[2][0][0] >= errors
        with self.subTest(code=code, string=string, floors=value[2]):
            self.assert_same(accepts_errors(code, string, errors, value), expected)
        return expected

    def test_floors_of_any_size(self):
        numbers = random.Random(264)
        right, wrong = 0, 0
        for code, string in chosen_pairs(80, 265):
            parse, steps, floors = errors_evidence(code, string)
            errors = least_errors(code, string)
            for _ in range(10):
                less = numbers.choice((0, 1, 2, 10 ** 20))
                changed = tuple(tuple(number - numbers.choice((0, 0, less)) for number in row) for row in floors)
                if self.assert_judged(code, string, errors, (parse, steps, changed)):
                    right += 1
                else:
                    wrong += 1
        self.assertGreater(right, 50)
        self.assertGreater(wrong, 50)

    def test_right_floors_tell_at_most_the_least_errors(self):
        """Point 103, of floors that are not those of the evidence."""
        numbers = random.Random(267)
        right = 0
        for code, string in chosen_pairs(100, 268):
            floors = errors_evidence(code, string)[2]
            least = [[searched(code, string, place, state or ())[0] for state in all_states(code)] for place in range(len(string) + 1)]
            rows = [floors]
            for _ in range(20):
                rows.append(tuple(tuple(number + numbers.choice((0, 0, 0, 0, -1, -1, 1)) for number in row) for row in floors))
            for changed in rows:
                if are_right(code, string, changed):
                    right += 1
                    for row, most in zip(changed, least):
                        self.assertTrue(all(number <= errors for number, errors in zip(row, most)))
        self.assertGreater(right, 100)

    def test_negative_and_great_numbers(self):
        self.assert_same(accepts_errors(PAIR, "ab", 0, ((0,), (KEEP, KEEP), ((0, -1, -1), (-1, 0, 0), (0, 1, 1)))), True)
        self.assert_same(accepts_errors(PAIR, "ab", 0, ((0,), (KEEP, KEEP), ((0, -10 ** 30, -10 ** 30),) + ((0, 0, 0),) * 2)), False)
        self.assert_same(accepts_errors((), "ab", 2, ((), (DROP, DROP), ((2,), (1,), (0,)))), True)
        self.assert_same(accepts_errors((), "ab", 2, ((), (DROP, DROP), ((2,), (1,), (1,)))), False)
        self.assert_same(accepts_errors((), "ab", 2, ((), (DROP, DROP), ((2,), (1,), (-1,)))), False)
        self.assert_same(accepts_errors((), "ab", 2, ((), (DROP, DROP), ((3,), (1,), (0,)))), False)
        self.assert_same(accepts_errors((), "ab", 2, ((), (DROP, DROP), ((1,), (1,), (0,)))), False)
        self.assert_same(accepts_errors((), "ab", 2, ((), (DROP, DROP), ((10 ** 40,), (10 ** 40 - 1,), (10 ** 40 - 2,)))), False)
        self.assert_same(accepts_errors((), "", 0, ((), (), ((0,),))), True)
        self.assert_same(accepts_errors((), "", 0, ((), (), ((1,),))), False)
        self.assert_same(accepts_errors((), "", 0, ((), (), ((-1,),))), False)

    def test_other_kinds_in_floors(self):
        code, string = PAIR, "aab"
        parse, steps, floors = errors_evidence(code, string)
        kept = (parse, steps)
        self.assert_same(accepts_errors(code, string, 1, kept + (floors,)), True)
        for place, row in enumerate(floors):
            for state, number in enumerate(row):
                for other in (bool(number), True, False, float(number), str(number), None, (number,), [number], b"a"):
                    changed = floors[:place] + (row[:state] + (other,) + row[state + 1:],) + floors[place + 1:]
                    self.assert_same(accepts_errors(code, string, 1, kept + (changed,)), False)
            for other in (list(row), row + (0,), row[:-1], (), None, 0, True, "", (row,), dict(enumerate(row))):
                self.assert_same(accepts_errors(code, string, 1, kept + (floors[:place] + (other,) + floors[place + 1:],)), False)
            self.assert_same(accepts_errors(code, string, 1, kept + (floors[:place] + floors[place + 1:],)), False)
            self.assert_same(accepts_errors(code, string, 1, kept + (floors[:place] + (row,) + floors[place:],)), False)
        for other in OTHER_KINDS + (list(floors), floors + (floors[-1],), floors[:-1], floors[1:], (floors[0],) + floors):
            self.assert_same(accepts_errors(code, string, 1, kept + (other,)), False)

    def test_for_each_string_one_number(self):
        """With right floors of other values, and steps to other messages, no second number is accepted."""
        for code, string in chosen_pairs(60, 266, 3):
            errors = least_errors(code, string)
            floors = errors_evidence(code, string)[2]
            for parse in [row for many in range(3) for row in itertools.product(range(len(code)), repeat=many)]:
                message = string_of_words(code, parse)
                steps = self.steps_to(string, message)
                number = sum(1 for step in steps if step != KEEP)
                for more in (0, 1, -1, number - errors):
                    changed = tuple(tuple(floor + more for floor in row) for row in floors)
                    if number <= 24:
                        self.assertEqual(accepts_errors(code, string, number, (parse, steps, changed)), number == errors and more == 0)

    def steps_to(self, string, message):
        """Some steps to the message: keeping or changing letters, and then leaving out or putting in others."""
        steps = [KEEP if one == other else ("change", other) for one, other in zip(string, message)]
        steps += [DROP] * (len(string) - len(message)) + [("put", letter) for letter in message[len(string):]]
        return tuple(steps)


class Accepted(CodeCase):
    """Point 102: the parse and the steps."""

    def setUp(self):
        self.floors = errors_evidence(PAIR, "aab")[2]

    def assert_accepts(self, expected, parse, steps, number=1):
        with self.subTest(parse=parse, steps=steps):
            self.assert_same(accepts_errors(PAIR, "aab", number, (parse, steps, self.floors)), expected)

    def test_other_messages_and_steps_with_as_many_errors(self):
        self.assert_accepts(True, (0,), (DROP, KEEP, KEEP))
        self.assert_accepts(True, (0,), (KEEP, DROP, KEEP))
        self.assert_accepts(True, (0, 0), (KEEP, ("put", "b"), KEEP, KEEP))
        self.assert_accepts(True, (1, 0), (("put", "b"), KEEP, KEEP, KEEP))

    def test_more_errors(self):
        self.assert_accepts(False, (0,), (DROP, ("change", "a"), KEEP))
        self.assert_accepts(False, (0,), (DROP, ("change", "a"), KEEP), 2)
        self.assert_accepts(False, (1,), (DROP, ("change", "b"), ("change", "a")), 3)
        self.assert_accepts(False, (), (DROP, DROP, DROP), 3)
        self.assert_accepts(False, (0,), (KEEP, ("put", "b"), DROP, DROP), 3)

    def test_a_change_to_the_same_letter_is_an_error(self):
        self.assertFalse(accepts_errors(PAIR, "ab", 0, ((0,), (KEEP, ("change", "b")), errors_evidence(PAIR, "ab")[2])))
        self.assertTrue(accepts_errors(PAIR, "ab", 0, ((0,), (KEEP, KEEP), errors_evidence(PAIR, "ab")[2])))
        self.assert_accepts(False, (0,), (("change", "a"), KEEP, KEEP))

    def test_fewer_errors(self):
        self.assert_accepts(False, (0,), (KEEP, KEEP, KEEP), 0)
        self.assert_accepts(False, (0,), (KEEP, KEEP, KEEP), 1)
        self.assert_accepts(False, (0,), (DROP, KEEP, KEEP), 0)
        self.assert_accepts(False, (0,), (DROP, KEEP, KEEP), 2)
        self.assert_accepts(False, (0,), (DROP, KEEP, KEEP), 24)

    def test_steps_that_lead_elsewhere(self):
        for steps in (
            (), (KEEP,), (DROP, KEEP), (DROP, KEEP, KEEP, KEEP), (KEEP, KEEP, DROP), (DROP, KEEP, ("put", "b")), (("change", "b"), KEEP, KEEP),
            (("put", "b"), KEEP, KEEP, KEEP), (DROP, KEEP, KEEP, ("put", "a")),
        ):
            self.assert_accepts(False, (0,), steps)

    def test_another_letter_or_another_word(self):
        for step in (
            ("drop", "a"), ("keep", "a"), ("change",), ("put",), ("change", ""), ("change", "ab"), ("change", "d"), ("change", "A"), ("change", None), ("change", 0),
            ("Drop",), ("leave",), ("",), (None,), (True,), (0,), (), ["drop"], "drop", None, True, 0, b"drop", (b"drop",), ("drop", None), (("drop",),),
            ("change", "a", "b"), ("put", "a", "a"), ("change", ["a"]), ("change", ("a",)), ("change", b"a"), ("put", "aa"), ("put", "d"), {"drop"},
        ):
            self.assert_accepts(False, (0,), (step, KEEP, KEEP))
            self.assert_accepts(False, (0,), (DROP, KEEP, KEEP, step))

    def test_steps_of_other_kinds(self):
        for steps in OTHER_KINDS + ([DROP, KEEP, KEEP], "dkk", (["drop"], ["keep"], ["keep"]), {DROP, KEEP}, (DROP, (KEEP, KEEP))):
            self.assert_accepts(False, (0,), steps)

    def test_parses_of_other_kinds(self):
        self.assert_accepts(True, (0,), (DROP, KEEP, KEEP))
        for parse in (
            [0], 0, True, None, "0", "ab", (False,), ("0",), (0.0,), (2,), (-2,), (1,), (0, 0), (), (0, 2), (None,), ((0,),), ([0],), {0}, {0: 0}, range(1),
            b"\0", (100,), (2 ** 70,),
        ):
            self.assert_accepts(False, parse, (DROP, KEEP, KEEP))

    def test_values_of_other_kinds(self):
        value = ((0,), (DROP, KEEP, KEEP), self.floors)
        for other in OTHER_KINDS + (list(value), value[:2], value + ((),), value[::-1], dict(enumerate(value)), (value,), value[1:] + value[:1]):
            self.assert_same(accepts_errors(PAIR, "aab", 1, other), False)
        self.assert_same(accepts_errors(PAIR, "aab", 1, value), True)

    def test_100_and_101_numbers(self):
        """A parse and steps as long as they can be, with errors that are not the least."""
        code = ("a", "aaaaa")
        floors = tuple((0, 0, 0, 0, 0) for _ in range(2))
        self.assert_same(accepts_errors(code, "a", 0, ((0,), (KEEP,), floors)), True)
        puts = (("put", "a"),)
        # No number of errors up to 24 leads to so many letters: only that nothing is accepted, and nothing raised.
        for many in (99, 100, 101, 10000):
            for number in (0, 24):
                self.assert_same(accepts_errors(code, "a", number, ((0,) * many, (KEEP,) + puts * (many - 1), floors)), False)


class FirstError(CodeCase):
    """Point 104."""

    def listed(self, code, string):
        beginnings = {message[:many] for message in messages_up_to(code, len(string) + 4) for many in range(len(message) + 1)}
        for many in range(1, len(string) + 1):
            if string[:many] not in beginnings:
                return many
        return None

    def test_against_a_listing_of_beginnings(self):
        for code in small_codes()[::4] + [code for code in CODES if len(code) < 4]:
            for string in strings_up_to(4, "ab") + ["c", "abc", "ac", "cab"]:
                with self.subTest(code=code, string=string):
                    self.assert_same(first_error(code, string), self.listed(code, string))
        for code, string in chosen_pairs(150, 270, 6):
            code = code[:2] if len(string) > 4 else code
            self.assert_same(first_error(code, string), self.listed(code, string))

    def test_without_words(self):
        self.assert_same(first_error((), ""), None)
        self.assert_same(first_error((), "a"), 1)
        self.assert_same(first_error((), LONG), 1)

    def test_none(self):
        for code in CODES:
            self.assert_same(first_error(code, ""), None)
        for code, string in ((("a",), "a" * 24), (("abc",), LONG), (("abcab",), "abca"), (("ab", "ba"), "aba"), (("ab", "ba"), "ab" * 12), (("a", "ab"), "ab")):
            self.assert_same(first_error(code, string), None)

    def test_cases(self):
        for code, string, expected in (
            (PAIR, "aab", 2), (PAIR, "c", 1), (PAIR, "abc", 3), (PAIR, "abaa", 4), (PAIR, "ababb", None), (PAIR, "abaab", 4), (PAIR, "aba" + "c" * 21, 4),
            (("abc",), LONG[:23] + "a", 24), (("abc",), LONG[:22] + "cc", 23), (("a", "aab"), "aabb", 4), (("a",), "a" * 23 + "b", 24),
        ):
            self.assert_same(first_error(code, string), expected)

    def test_a_string_with_a_first_error_is_no_message(self):
        for code, string in chosen_pairs(200, 271):
            if first_error(code, string) is not None:
                self.assertFalse(is_message(code, string))
                self.assertGreater(least_errors(code, string), 0)


class Example(CodeCase):
    """Point 106."""

    def test_with_the_words_ab_and_ba(self):
        self.assert_same(least_errors(PAIR, "aab"), 1)
        self.assert_same(correction(PAIR, "aab"), "ab")
        self.assert_same(distance("aab", "ab"), 1)
        self.assert_same(led("aab", (DROP, KEEP, KEEP)), "ab")
        self.assert_same(first_error(PAIR, "aab"), 2)


if __name__ == "__main__":
    unittest.main()
