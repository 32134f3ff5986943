"""Points 2, 3 and 8: equal results of equal calls, arguments left as they are, kinds of values, and names."""

import copy
import importlib
import inspect
import unittest

from syncedwords.codes import is_code, is_string
from syncedwords.errors import CodeError
from syncedwords.made import backwards, generators, have_same, needless, renamed
from syncedwords.parses import boundaries, common_boundaries, count_parses, index_of_parse
from syncedwords.parses import is_message, nth_parse, string_of
from tests.oracle import CodeCase

CODE = ("ab", "a", "aab", "aa")

# Each function with arguments, and what it returns, of just this kind.
RESULTS = (
    (is_code, (CODE,), True),
    (is_code, (list(CODE),), False),
    (is_string, ("aab",), True),
    (is_string, (["aab"],), False),
    (string_of, (CODE, (1, 0)), "aab"),
    (is_message, (CODE, "aab"), True),
    (is_message, (CODE, "ba"), False),
    (count_parses, (CODE, "aab"), 2),
    (count_parses, (CODE, "a"), 1),
    (count_parses, (CODE, "b"), 0),
    (nth_parse, (CODE, "aab", 0), (1, 0)),
    (nth_parse, (CODE, "aab", 1), (2,)),
    (index_of_parse, (CODE, (2,)), 1),
    (index_of_parse, (CODE, (1, 0)), 0),
    (boundaries, (CODE, "aab"), (0, 1, 3)),
    (boundaries, (CODE, "b"), ()),
    (common_boundaries, (CODE, "aab"), (0, 3)),
    (needless, (CODE,), (2, 3)),
    (generators, (CODE,), ("ab", "a")),
    (backwards, (CODE,), ("ba", "a", "baa", "aa")),
    (renamed, (CODE, "cab"), ("ca", "c", "cca", "cc")),
    (have_same, (CODE, ("a", "ab")), True),
    (have_same, (CODE, ("a", "b")), False),
)

INTERFACE = {
    "syncedwords.codes": {"is_code": "value", "is_string": "value"},
    "syncedwords.parses": {
        "string_of": "code parse", "is_message": "code string", "count_parses": "code string",
        "nth_parse": "code string index", "index_of_parse": "code parse", "boundaries": "code string",
        "common_boundaries": "code string",
    },
    "syncedwords.made": {
        "needless": "code", "generators": "code", "backwards": "code", "renamed": "code order",
        "have_same": "code other",
    },
}

WRONG_CALLS = (
    (is_message, (list(CODE), "a")),
    (is_message, (CODE, ["a"])),
    (string_of, (CODE, [0, 1])),
    (string_of, (CODE, (0,) * 13)),
    (nth_parse, (CODE, "aab", [1])),
    (index_of_parse, (CODE, [[0], 1])),
    (common_boundaries, (CODE, "b")),
    (have_same, (CODE, list(CODE))),
    (renamed, (CODE, ["a", "b", "c"])),
    (generators, ([["a"], "b"],)),
)


class Results(CodeCase):
    def test_each_is_of_its_kind(self):
        for function, arguments, expected in RESULTS:
            with self.subTest(function=function.__name__, arguments=arguments):
                self.assert_same(function(*arguments), expected)

    def test_equal_calls_return_equal_results(self):
        for _ in range(3):
            for function, arguments, expected in RESULTS + RESULTS[::-1]:
                with self.subTest(function=function.__name__, arguments=arguments):
                    self.assert_same(function(*copy.deepcopy(arguments)), expected)

    def test_no_argument_is_changed(self):
        for function, arguments, _ in RESULTS:
            with self.subTest(function=function.__name__, arguments=arguments):
                kept = copy.deepcopy(arguments)
                function(*arguments)
                self.assert_same(arguments, kept)


class AfterAnError(CodeCase):
    def test_nothing_has_changed(self):
        for function, arguments in WRONG_CALLS:
            with self.subTest(function=function.__name__, arguments=arguments):
                kept = copy.deepcopy(arguments)
                with self.assertRaises(CodeError):
                    function(*arguments)
                self.assert_same(arguments, kept)
                with self.assertRaises(CodeError):
                    function(*arguments)
        for function, arguments, expected in RESULTS:
            self.assert_same(function(*arguments), expected)


class Interface(unittest.TestCase):
    def test_names_and_arguments(self):
        for path, functions in INTERFACE.items():
            module = importlib.import_module(path)
            for name, parameters in functions.items():
                with self.subTest(module=path, function=name):
                    function = getattr(module, name)
                    self.assertEqual(function.__module__, path)
                    self.assertEqual(list(inspect.signature(function).parameters), parameters.split())


if __name__ == "__main__":
    unittest.main()
