"""Points 2, 3 and 8: equal results of equal calls, arguments left as they are, kinds of values, and names."""

import copy
import importlib
import inspect
import unittest

from syncedwords.broadcast import Broadcast
from syncedwords.codes import is_code, is_string
from syncedwords.correction import accepts_errors, correction, errors_evidence, first_error, least_errors
from syncedwords.distance import distance, led
from syncedwords.errors import CodeError
from syncedwords.hearing import accepts_place, place_evidence
from syncedwords.journals import are_right, replayed
from syncedwords.lengths import extended, first_failing, kraft_sum, more_words, necklaces, word_necklaces
from syncedwords.listeners import first_known, is_observable, known_boundaries, known_words, next_letters
from syncedwords.listeners import observable_rest, states_at
from syncedwords.made import backwards, generators, have_same, needless, renamed
from syncedwords.making import accepts_journal, became, code_of, eliminated, made_code, told_journal
from syncedwords.parses import boundaries, common_boundaries, count_parses, index_of_parse
from syncedwords.parses import is_message, nth_parse, string_of
from syncedwords.prefixes import accepts_decoder, count_strings, decoder_evidence, decoder_states, is_synchronizing
from syncedwords.prefixes import left_behind, resolving, shortest
from syncedwords.ranks import accepts_sync, sync_evidence
from syncedwords.reading import next_tokens, read_book, read_code
from syncedwords.rings import count_cuts, count_necklaces, index_of_cut, is_cut, is_ring, least_rotation, nth_cut
from syncedwords.rings import offset, root, rotated, words_of_cut
from syncedwords.scanning import scan
from syncedwords.sync import delay, is_synced, longest_unsynced, states
from syncedwords.unique import accepts_unique, first_ambiguous, is_unique, rests, unique_evidence
from syncedwords.writing import book_text, code_text, is_book
from tests.oracle import CodeCase

CODE = ("ab", "a", "aab", "aa")
LATE = ("a", "ab", "bb")
SYNCED = ("a", "ab")
PREFIX = ("a", "ba", "bb")
PAIRED = ("aa", "ab", "ba", "bb")
STUCK = ("stuck", (("", "a"), ("", "b"), ("a", ""), ("b", "")))
KNOWN = ("known", ((0, 1), (0, 1)), ((0,), (1,), (0, 1)))
JOURNAL = (("drop", "a"), ("keep", "b"), ("keep", "ab"), ("keep", "aab"))
NEAREST = ((), (("drop",),), ((1, 0, 0), (0, 1, 1)))
RECORDS = ((("join",), ((),)), (("send", 1), ((0,),)), (("join",), ((0,), ())), (("step",), ((0, 2), (1,))))
RANKS = ("ranks", (((0, 1), 1), ((1, 0), 1), ((1, 1), 1)), ((0, 1), (1, 0)))

# Each function with arguments, and what it returns, of just this kind.
RESULTS = (
    (is_code, (CODE,), True),
    (is_code, (list(CODE),), False),
    (is_string, ("aab",), True),
    (is_string, (["aab"],), False),
    (string_of, (CODE, (1, 0)), "aab"),
    (is_message, (CODE, "aab"), True),
    (is_message, (CODE, "ba"), False),
    (count_parses, (CODE, "aab"), 2),
    (count_parses, (CODE, "a"), 1),
    (count_parses, (CODE, "b"), 0),
    (nth_parse, (CODE, "aab", 0), (1, 0)),
    (nth_parse, (CODE, "aab", 1), (2,)),
    (index_of_parse, (CODE, (2,)), 1),
    (index_of_parse, (CODE, (1, 0)), 0),
    (boundaries, (CODE, "aab"), (0, 1, 3)),
    (boundaries, (CODE, "b"), ()),
    (common_boundaries, (CODE, "aab"), (0, 3)),
    (needless, (CODE,), (2, 3)),
    (generators, (CODE,), ("ab", "a")),
    (backwards, (CODE,), ("ba", "a", "baa", "aa")),
    (renamed, (CODE, "cab"), ("ca", "c", "cca", "cc")),
    (have_same, (CODE, ("a", "ab")), True),
    (have_same, (CODE, ("a", "b")), False),
    (is_unique, (CODE,), False),
    (is_unique, (LATE,), True),
    (rests, (LATE,), ("b",)),
    (rests, (CODE,), ("", "a", "ab", "b")),
    (first_ambiguous, (CODE,), "aa"),
    (first_ambiguous, (LATE,), None),
    (unique_evidence, (LATE,), ("unique", ("b",))),
    (accepts_unique, (LATE, ("unique", ("b",))), True),
    (accepts_unique, (CODE, ("two", ((1, 1), (3,)))), True),
    (accepts_unique, (CODE, ["two", [[1, 1], [3]]]), False),
    (is_ring, ("abab",), True),
    (is_ring, (["abab"],), False),
    (is_cut, (CODE, "aab", (0, 1)), True),
    (is_cut, (CODE, "aab", [0, 1]), False),
    (count_cuts, (CODE, "aab"), 2),
    (nth_cut, (CODE, "aab", 1), (0, 1)),
    (index_of_cut, (CODE, "aab", (0, 1)), 1),
    (index_of_cut, (CODE, "aab", [0, 1]), None),
    (words_of_cut, (CODE, "aab", (0, 1)), (1, 0)),
    (rotated, ("aab", 2), "baa"),
    (root, ("abab",), ("ab", 2)),
    (least_rotation, ("bab",), ("abb", 1)),
    (offset, ("abab", "baba"), 1),
    (offset, ("ab", "aa"), None),
    (count_necklaces, (CODE, 3), 1),
    (states, (CODE,), [None, (0, 1), (2, 1), (2, 2), (3, 1)]),
    (states, ((),), [None]),
    (delay, (SYNCED,), 1),
    (delay, (("ab", "ba"),), None),
    (is_synced, (SYNCED,), True),
    (is_synced, (("ab", "ba"),), False),
    (longest_unsynced, (("a", "ab", "abb"),), "b"),
    (longest_unsynced, (("a",),), None),
    (sync_evidence, (SYNCED,), RANKS),
    (accepts_sync, (SYNCED, RANKS), True),
    (accepts_sync, (("ab", "ba"), ["ring", "ab", [0], [1]]), False),
    (accepts_sync, (("ab", "ba"), ("ring", "ab", (0,), (1,))), True),
    (is_observable, (SYNCED, "aab"), True),
    (is_observable, (SYNCED, "bb"), False),
    (states_at, (SYNCED, "a", 1), (0, 1)),
    (known_boundaries, (SYNCED, "aab"), (0, 1, 3)),
    (known_boundaries, (SYNCED, "bb"), None),
    (known_boundaries, (("ab", "ba"), "aba"), ()),
    (known_words, (SYNCED, "aab"), ((0, 0), (1, 1))),
    (known_words, (SYNCED, "bb"), None),
    (known_words, (SYNCED, "a"), ()),
    (first_known, (SYNCED, "aab"), 1),
    (first_known, (SYNCED, "bb"), None),
    (observable_rest, (SYNCED, "abba"), "ba"),
    (next_letters, (SYNCED, "a"), "ab"),
    (next_letters, (SYNCED, "bb"), None),
    (place_evidence, (SYNCED, "a", 1), ("open", (0, 1))),
    (accepts_place, (SYNCED, "aab", 1, KNOWN), True),
    (accepts_place, (SYNCED, "aab", 1, ["known", [[0, 1], [0, 1]], [[0], [1], [0, 1]]]), False),
    (accepts_place, (SYNCED, "a", 1, ("open", (0, 1))), True),
    (decoder_states, (PREFIX,), ("", "b")),
    (left_behind, (PREFIX, "bb"), ("", "b")),
    (left_behind, (("ab", "b"), "aa"), ()),
    (is_synchronizing, (PREFIX, "a"), True),
    (is_synchronizing, (PREFIX, "b"), False),
    (shortest, (PREFIX,), "a"),
    (shortest, (PAIRED,), None),
    (resolving, (PAIRED, "a", "b"), "a"),
    (resolving, (PAIRED, "", "a"), None),
    (count_strings, (PREFIX, 3), (8, 7)),
    (accepts_decoder, (PREFIX, ("string", "ba")), True),
    (accepts_decoder, (PAIRED, STUCK), True),
    (accepts_decoder, (PAIRED, ["stuck", [["", "a"], ["a", ""]]]), False),
    (necklaces, (2, 6), 9),
    (word_necklaces, ((1, 1), 6), 2),
    (first_failing, (2, (2, 1)), 2),
    (first_failing, (2, (1, 1)), None),
    (more_words, (2, (1, 1), 4), 2),
    (more_words, (2, (2, 1), 3), None),
    (extended, (2, (1,), 4), (1, 1, 1, 1)),
    (extended, (2, (2, 1), 4), None),
    (kraft_sum, (2, (1, 1)), (3, 4)),
    (eliminated, (("a", "b"), "b", 3), ("a", "ba", "bba")),
    (eliminated, (("a",), "a", 3), ()),
    (made_code, (2, (1, 1, 1)), ("a", "ba", "bba")),
    (made_code, (2, (2, 1)), None),
    (told_journal, (2, (1, 1, 1)), (("keep", "a"), ("drop", "b"), ("keep", "ba"), ("keep", "bba"))),
    (told_journal, (2, ()), ()),
    (told_journal, (2, (2, 1)), None),
    (accepts_journal, (2, (1, 1, 1), JOURNAL), True),
    (accepts_journal, (2, (1, 1, 1), [list(step) for step in JOURNAL]), False),
    (code_of, (2, (1, 1, 1), JOURNAL), ("b", "ab", "aab")),
    (code_of, (2, (1, 1, 1), list(JOURNAL)), None),
    (became, (2, (1, 1, 1), "b"), ("dropped", "b")),
    (became, (2, (1, 1, 1), "aab"), ("cut", (1, 2))),
    (distance, ("abc", "ac"), 1),
    (led, ("aab", (("drop",), ("keep",), ("keep",))), "ab"),
    (led, ("aab", (("keep",),)), None),
    (least_errors, (("ab", "ba"), "aab"), 1),
    (correction, (("ab", "ba"), "aab"), "ab"),
    (first_error, (("ab", "ba"), "aab"), 2),
    (first_error, (("ab", "ba"), "aba"), None),
    (accepts_errors, (("ab", "ba"), "a", 1, NEAREST), True),
    (accepts_errors, (("ab", "ba"), "a", 1, [[], [["drop"]], [[1, 0, 0], [0, 1, 1]]]), False),
    (scan, ("a: 0",), [("word", "a", 1), ("sign", ":", 2), ("number", "0", 4), ("end", "", 5)]),
    (scan, ("",), [("end", "", 1)]),
    (next_tokens, ("a ab", "code"), ["a word", "the end"]),
    (next_tokens, ("", "book"), ["a word", '":"']),
    (next_tokens, ("a: 0", "book"), ["a number", '";"', "the end"]),
    (read_code, ("a ab",), ("a", "ab")),
    (read_code, ("",), ()),
    (read_book, ("a: 0 0;; 0",), (("a",), ((0, 0), (), (0,)))),
    (is_book, ((("a",), ((0, 0), (), (0,))),), True),
    (is_book, ([["a"], [[0, 0], [], [0]]],), False),
    (code_text, (("a", "ab"),), "a ab"),
    (book_text, ((("a",), ((0, 0), (), (0,))),), "a: 0 0;; 0"),
    (are_right, (SYNCED, RECORDS), True),
    (are_right, (SYNCED, [[list(command), [list(places) for places in told]] for command, told in RECORDS]), False),
)

INTERFACE = {
    "syncedwords.codes": {"is_code": "value", "is_string": "value"},
    "syncedwords.parses": {
        "string_of": "code parse", "is_message": "code string", "count_parses": "code string",
        "nth_parse": "code string index", "index_of_parse": "code parse", "boundaries": "code string",
        "common_boundaries": "code string",
    },
    "syncedwords.made": {
        "needless": "code", "generators": "code", "backwards": "code", "renamed": "code order",
        "have_same": "code other",
    },
    "syncedwords.unique": {
        "is_unique": "code", "rests": "code", "first_ambiguous": "code", "unique_evidence": "code",
        "accepts_unique": "code value",
    },
    "syncedwords.rings": {
        "is_ring": "value", "is_cut": "code ring value", "count_cuts": "code ring", "nth_cut": "code ring index",
        "index_of_cut": "code ring value", "words_of_cut": "code ring cut", "rotated": "ring many", "root": "ring",
        "least_rotation": "ring", "offset": "first second", "count_necklaces": "code many",
    },
    "syncedwords.sync": {"states": "code", "delay": "code", "is_synced": "code", "longest_unsynced": "code"},
    "syncedwords.ranks": {"sync_evidence": "code", "accepts_sync": "code value"},
    "syncedwords.listeners": {
        "is_observable": "code string", "states_at": "code string place", "known_boundaries": "code string",
        "known_words": "code string", "first_known": "code string", "observable_rest": "code string",
        "next_letters": "code string",
    },
    "syncedwords.hearing": {"place_evidence": "code string place", "accepts_place": "code string place value"},
    "syncedwords.prefixes": {
        "decoder_states": "code", "left_behind": "code string", "is_synchronizing": "code string", "shortest": "code",
        "resolving": "code first second", "count_strings": "code many", "decoder_evidence": "code",
        "accepts_decoder": "code value",
    },
    "syncedwords.lengths": {
        "necklaces": "size length", "word_necklaces": "counts length", "first_failing": "size counts",
        "more_words": "size counts length", "extended": "size counts most", "kraft_sum": "size counts",
    },
    "syncedwords.making": {
        "eliminated": "words word most", "made_code": "size counts", "told_journal": "size counts",
        "accepts_journal": "size counts value", "code_of": "size counts value", "became": "size counts ring",
    },
    "syncedwords.distance": {"distance": "first second", "led": "string steps"},
    "syncedwords.correction": {
        "least_errors": "code string", "correction": "code string", "first_error": "code string",
        "errors_evidence": "code string", "accepts_errors": "code string number value",
    },
    "syncedwords.scanning": {"scan": "text"},
    "syncedwords.reading": {"next_tokens": "text kind", "read_code": "text", "read_book": "text"},
    "syncedwords.writing": {"is_book": "value", "code_text": "code", "book_text": "book"},
    "syncedwords.broadcast": {"Broadcast": "code"},
    "syncedwords.journals": {"replayed": "code journal", "are_right": "code records"},
    "syncedwords.errors": {
        "CodeError": "", "BadValue": "name", "TooLarge": "what", "NotPossible": "why", "TextError": "column words",
    },
}

WRONG_CALLS = (
    (is_message, (list(CODE), "a")),
    (is_message, (CODE, ["a"])),
    (string_of, (CODE, [0, 1])),
    (string_of, (CODE, (0,) * 13)),
    (nth_parse, (CODE, "aab", [1])),
    (index_of_parse, (CODE, [[0], 1])),
    (common_boundaries, (CODE, "b")),
    (have_same, (CODE, list(CODE))),
    (renamed, (CODE, ["a", "b", "c"])),
    (generators, ([["a"], "b"],)),
    (rests, (list(LATE),)),
    (accepts_unique, (list(LATE), ["unique", ["b"]])),
    (nth_cut, (CODE, "aab", [1])),
    (words_of_cut, (CODE, "aab", [0, 1])),
    (offset, ("aab", ["aab"])),
    (count_necklaces, (CODE, [3])),
    (states, (list(SYNCED),)),
    (accepts_sync, (list(SYNCED), [RANKS])),
    (states_at, (SYNCED, "bb", 0)),
    (states_at, (SYNCED, "aab", [0])),
    (known_words, (list(SYNCED), "aab")),
    (accepts_place, (SYNCED, "aab", [1], [KNOWN])),
    (left_behind, (list(PREFIX), "a")),
    (resolving, (PREFIX, ["b"], "")),
    (decoder_evidence, (SYNCED,)),
    (shortest, (("aaaaa", "baaaa", "ca"),)),
    (more_words, (2, [1, 1], 3)),
    (extended, (2, (1, 1), [3])),
    (eliminated, (["a", "b"], "b", 3)),
    (eliminated, (("a", "b"), ["b"], 3)),
    (told_journal, (2, [1, 1])),
    (code_of, (2, [1, 1], [list(step) for step in JOURNAL])),
    (became, (2, (1, 1), ["a"])),
    (became, (2, (2, 1), "a")),
    (led, ("aab", [["drop"], ["keep"]])),
    (distance, ("aab", ["aab"])),
    (accepts_errors, (["ab", "ba"], "a", 1, [NEAREST])),
    (accepts_errors, (("ab", "ba"), "a", [1], [NEAREST])),
    (scan, (["a"],)),
    (scan, ("a d",)),
    (next_tokens, (["a"], "book")),
    (next_tokens, ("a", ["book"])),
    (read_code, ("a a",)),
    (read_book, ("a: 1",)),
    (code_text, (["a", "ab"],)),
    (book_text, ([["a"], [[0]]],)),
    (Broadcast, (["a", "ab"],)),
    (replayed, (SYNCED, [["join"]])),
    (replayed, (SYNCED, (("join",), ["step"]))),
    (replayed, (SYNCED, (("join",), ("step",)))),
    (are_right, (["a", "ab"], [[["join"], [[]]]])),
)

# Calls whose evidence is not told by the document alone.
FREE = (
    (unique_evidence, (CODE,)),
    (unique_evidence, (("a", "ab", "ba"),)),
    (sync_evidence, (("ab", "ba"),)),
    (sync_evidence, (CODE,)),
    (sync_evidence, (("aab", "abb", "baa", "bba"),)),
    (place_evidence, (SYNCED, "aab", 1)),
    (place_evidence, (("ab", "ba"), "ababab", 2)),
    (decoder_evidence, (PREFIX,)),
    (decoder_evidence, (PAIRED,)),
    (decoder_evidence, (("abcab", "bcabc", "cabca"),)),
    (errors_evidence, (("ab", "ba"), "aab")),
    (errors_evidence, (CODE, "abcba")),
    (errors_evidence, ((), "ab")),
)


class Results(CodeCase):
    def test_each_is_of_its_kind(self):
        for function, arguments, expected in RESULTS:
            with self.subTest(function=function.__name__, arguments=arguments):
                self.assert_same(function(*arguments), expected)

    def test_equal_calls_return_equal_results(self):
        for _ in range(3):
            for function, arguments, expected in RESULTS + RESULTS[::-1]:
                with self.subTest(function=function.__name__, arguments=arguments):
                    self.assert_same(function(*copy.deepcopy(arguments)), expected)

    def test_no_argument_is_changed(self):
        for function, arguments, _ in RESULTS:
            with self.subTest(function=function.__name__, arguments=arguments):
                kept = copy.deepcopy(arguments)
                function(*arguments)
                self.assert_same(arguments, kept)


    def test_equal_calls_return_equal_evidence(self):
        told = [function(*copy.deepcopy(arguments)) for function, arguments in FREE]
        for _ in range(3):
            for (function, arguments), expected in list(zip(FREE, told))[::-1]:
                self.assert_same(function(*copy.deepcopy(arguments)), expected)

    def test_a_returned_list_is_not_used_again(self):
        for function, arguments, expected in RESULTS:
            if isinstance(expected, list):
                with self.subTest(function=function.__name__, arguments=arguments):
                    result = function(*arguments)
                    result.append("more")
                    result[0] = "other"
                    self.assert_same(function(*arguments), expected)


class AfterAnError(CodeCase):
    def test_nothing_has_changed(self):
        for function, arguments in WRONG_CALLS:
            with self.subTest(function=function.__name__, arguments=arguments):
                kept = copy.deepcopy(arguments)
                with self.assertRaises(CodeError):
                    function(*arguments)
                self.assert_same(arguments, kept)
                with self.assertRaises(CodeError):
                    function(*arguments)
        for function, arguments, expected in RESULTS:
            self.assert_same(function(*arguments), expected)


class Broadcasts(CodeCase):
    """Points 2, 3 and 8 of an object."""

    METHODS = {
        "act": "command", "undo": "", "sent": "", "inside": "", "joined": "", "journal": "", "heard": "number", "knows": "number",
        "records": "", "twin": "",
    }

    def test_each_method_is_defined_in_the_class(self):
        for name, parameters in self.METHODS.items():
            self.assertIn(name, vars(Broadcast))
            self.assertEqual(list(inspect.signature(getattr(Broadcast, name)).parameters), ["self"] + parameters.split())

    def test_equal_calls_return_equal_results(self):
        for _ in range(3):
            broadcast = replayed(SYNCED, tuple(command for command, _ in RECORDS))
            for _ in range(3):
                self.assert_same(broadcast.records(), RECORDS)
                self.assert_same((broadcast.sent(), broadcast.inside(), broadcast.joined()), ("ab", None, (0, 1)))
                self.assert_same(broadcast.journal(), tuple(command for command, _ in RECORDS))
                self.assert_same((broadcast.heard(0), broadcast.knows(0)), ("ab", (0, 2)))
                self.assert_same((broadcast.heard(1), broadcast.knows(1)), ("b", (1,)))

    def test_a_call_that_raises_an_error_changes_nothing(self):
        broadcast = replayed(SYNCED, tuple(command for command, _ in RECORDS))
        wrong = (
            (broadcast.act, ["join"]), (broadcast.act, ("send", [0])), (broadcast.act, ("step",)), (broadcast.act, ("leave", 2)), (broadcast.heard, [0]),
            (broadcast.heard, 2), (broadcast.knows, None), (broadcast.knows, 5),
        )
        for function, value in wrong:
            with self.assertRaises(CodeError):
                function(value)
            self.assert_same(broadcast.records(), RECORDS)
            self.assert_same((broadcast.sent(), broadcast.inside(), broadcast.joined()), ("ab", None, (0, 1)))


class Interface(unittest.TestCase):
    def test_names_and_arguments(self):
        for path, functions in INTERFACE.items():
            module = importlib.import_module(path)
            for name, parameters in functions.items():
                with self.subTest(module=path, function=name):
                    function = getattr(module, name)
                    self.assertEqual(function.__module__, path)
                    if name != "CodeError":
                        self.assertEqual(list(inspect.signature(function).parameters), parameters.split())


if __name__ == "__main__":
    unittest.main()
