"""Wrong values of arguments, and tests that ask for the error of each of them, alone and together."""

from syncedwords.errors import BadValue
from tests.oracle import LONG

WRONG_CODES = (
    None, True, 0, 1, "", "a", [], ["a", "ab"], ("",), ("a", ""), ("a", "a"), ("a", "ab", "a"), ("abcabc",), ("d",),
    ("A",), ("a", None), ("a", True), ("a", 1), ("a", ["b"]), (("a",),), ("a", "b", "c", "aa", "bb", "cc", "ab"), {"a"},
    {"a": 1}, b"a", (b"a",), ("a\n",),
)
WRONG_STRINGS = (
    None, True, False, 0, 24, (), ("a",), ["a"], b"a", "d", "A", "ab ", " ab", "ab\n", "a" * 25, LONG + "a", "a" * 1000,
    "d" * 25, LONG[:23] + "x",
)
WRONG_RINGS = (
    None, True, False, 0, 1, 12, "", (), ("a",), ["a"], b"a", "d", "A", "ab ", " ab", "ab\n", "a" * 13, "abc" * 4 + "a",
    "a" * 24, "a" * 25, "a" * 1000, "d" * 13, "abcabcabcabx",
)
WRONG_PARSES = (
    None, True, 0, "", "0", [], [0], [0, 1], (True,), (False,), (0, True), (False, 0), (None,), ("0",), ("a",), (0, "1"),
    (-1,), (0, -1), (3,), (0, 3), (3, 0), (100,), (2 ** 70,), (0.0,), (1.0, 2), ((0,),), (0, (1,)), ([0],), {0}, {0: 1},
    range(2), b"a",
)
WRONG_INDEXES = (
    None, True, False, -1, 2, 3, 100, 2 ** 70, "0", "", 0.0, 1.0, (0,), (), [0], b"a",
)
WRONG_ORDERS = (
    None, True, 0, 1, "", "a", "ab", "abca", "aab", "aaa", "abb", "abd", "ABC", "abC", " abc", "abc ", "ab c", "abcabc",
    ("a", "b", "c"), ["a", "b", "c"], ("abc",), b"abc", "abc\n", "cbaabc", "d" * 3, {"a", "b", "c"},
)


class WrongCalls:
    """Tests over CALLS: each function with right arguments, and the name of each argument with wrong values of it."""

    CALLS = ()

    def test_right_ones_raise_nothing(self):
        for function, right, _ in self.CALLS:
            with self.subTest(function=function.__name__):
                function(*right)

    def test_one_alone_is_wrong(self):
        for function, right, parameters in self.CALLS:
            for at, (name, values) in enumerate(parameters):
                for value in values:
                    self.assert_error(BadValue, "name", name, function, *right[:at], value, *right[at + 1:])

    def test_the_first_wrong_one_is_named(self):
        for function, right, parameters in self.CALLS:
            for at, (name, values) in enumerate(parameters):
                for further in parameters[at + 1:]:
                    self.both_wrong(function, right, at, parameters.index(further), parameters)

    def both_wrong(self, function, right, at, further, parameters):
        for value in parameters[at][1]:
            for other in parameters[further][1]:
                arguments = list(right)
                arguments[at], arguments[further] = value, other
                self.assert_error(BadValue, "name", parameters[at][0], function, *arguments)

    def test_all_are_wrong(self):
        for function, right, parameters in self.CALLS:
            for values in zip(*[values for _, values in parameters]):
                self.assert_error(BadValue, "name", parameters[0][0], function, *values, *right[len(values):])
