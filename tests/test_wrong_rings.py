"""Points 8, 28, 39 and 51: wrong arguments of the chapters about unique parses, rings and synchronization."""

import unittest

from syncedwords.errors import BadValue
from syncedwords.ranks import accepts_sync, sync_evidence
from syncedwords.rings import count_cuts, count_necklaces, index_of_cut, is_cut, is_ring, least_rotation, nth_cut
from syncedwords.rings import offset, root, rotated, words_of_cut
from syncedwords.sync import delay, is_synced, longest_unsynced, states
from syncedwords.unique import accepts_unique, first_ambiguous, is_unique, rests, unique_evidence
from tests.oracle import CodeCase
from tests.wrong import WRONG_CODES, WRONG_RINGS, WrongCalls

CODE = ("ab", "ba", "a")
RING = "abab"
WRONG_CUTS = (
    None, True, False, 0, 1, "", "02", [0, 2], [], (), {0, 2}, {0: 1, 2: 1}, range(0, 4, 2), b"\0\2", (0, 1), (2, 0), (0, 0),
    (0, 0, 2), (4,), (0, 4), (-2, 0), (-4, -2), (True, 3), (False, 2), (0, 2.0), (0, None), ("0", "2"), ((0, 2),), (0,),
    (2 ** 70,),
)
# The ring has just two cuts.
WRONG_INDEXES = (None, True, False, -1, 2, 3, 100, 2 ** 70, "0", "", 0.0, 1.0, (0,), (), [0], b"a")
WRONG_TURNS = (None, True, False, -1, 4, 5, 12, 2 ** 70, "1", "", 1.0, (1,), [1], b"a")
WRONG_MANY = (None, True, False, 0, -1, 8, 12, 2 ** 70, "1", "", 1.0, 7.0, (1,), [1], b"a")

CALLS = (
    (is_unique, (CODE,), (("code", WRONG_CODES),)),
    (rests, (CODE,), (("code", WRONG_CODES),)),
    (first_ambiguous, (CODE,), (("code", WRONG_CODES),)),
    (unique_evidence, (CODE,), (("code", WRONG_CODES),)),
    (accepts_unique, (CODE, None), (("code", WRONG_CODES),)),
    (is_cut, (CODE, RING, (0, 2)), (("code", WRONG_CODES), ("ring", WRONG_RINGS))),
    (count_cuts, (CODE, RING), (("code", WRONG_CODES), ("ring", WRONG_RINGS))),
    (nth_cut, (CODE, RING, 1), (("code", WRONG_CODES), ("ring", WRONG_RINGS), ("index", WRONG_INDEXES))),
    (index_of_cut, (CODE, RING, (0, 2)), (("code", WRONG_CODES), ("ring", WRONG_RINGS))),
    (words_of_cut, (CODE, RING, (0, 2)), (("code", WRONG_CODES), ("ring", WRONG_RINGS), ("cut", WRONG_CUTS))),
    (rotated, (RING, 3), (("ring", WRONG_RINGS), ("many", WRONG_TURNS))),
    (root, (RING,), (("ring", WRONG_RINGS),)),
    (least_rotation, (RING,), (("ring", WRONG_RINGS),)),
    (offset, (RING, "baba"), (("first", WRONG_RINGS), ("second", WRONG_RINGS))),
    (count_necklaces, (CODE, 7), (("code", WRONG_CODES), ("many", WRONG_MANY))),
    (states, (CODE,), (("code", WRONG_CODES),)),
    (delay, (CODE,), (("code", WRONG_CODES),)),
    (is_synced, (CODE,), (("code", WRONG_CODES),)),
    (longest_unsynced, (CODE,), (("code", WRONG_CODES),)),
    (sync_evidence, (CODE,), (("code", WRONG_CODES),)),
    (accepts_sync, (CODE, None), (("code", WRONG_CODES),)),
)


class WrongArguments(WrongCalls, CodeCase):
    CALLS = CALLS

    def test_a_value_that_is_judged_does_not_matter(self):
        for value in (None, True, [], (), ("unique", ()), ("ranks", (), ()), object()):
            for code in WRONG_CODES:
                self.assert_error(BadValue, "name", "code", accepts_unique, code, value)
                self.assert_error(BadValue, "name", "code", accepts_sync, code, value)
                self.assert_error(BadValue, "name", "code", is_cut, code, RING, value)
                self.assert_error(BadValue, "name", "code", index_of_cut, code, RING, value)
            for ring in WRONG_RINGS:
                self.assert_error(BadValue, "name", "ring", is_cut, CODE, ring, value)
                self.assert_error(BadValue, "name", "ring", index_of_cut, CODE, ring, value)


class RingLengths(CodeCase):
    CALLS = (
        (is_cut, (CODE,), ((0,),), "ring"),
        (count_cuts, (CODE,), (), "ring"),
        (index_of_cut, (CODE,), ((0,),), "ring"),
        (rotated, (), (0,), "ring"),
        (root, (), (), "ring"),
        (least_rotation, (), (), "ring"),
        (offset, (), ("a",), "first"),
        (offset, ("a",), (), "second"),
    )

    def test_0_1_12_and_13_letters(self):
        for function, ahead, behind, name in self.CALLS:
            for many in (1, 2, 11, 12):
                function(*ahead, "a" * many, *behind)
                function(*ahead, "abcabcabcabc"[:many], *behind)
            for many in (0, 13, 14, 24):
                self.assert_error(BadValue, "name", name, function, *ahead, "a" * many, *behind)
                self.assert_error(BadValue, "name", name, function, *ahead, ("abc" * 8)[:many], *behind)

    def test_is_ring(self):
        for value in WRONG_RINGS:
            self.assert_same(is_ring(value), False)
        for many in range(1, 13):
            self.assert_same(is_ring("c" * many), True)

    def test_with_an_index_and_a_cut(self):
        for many in (1, 12):
            self.assert_same(nth_cut(("a",), "a" * many, 0), tuple(range(many)))
            self.assert_same(words_of_cut(("a",), "a" * many, tuple(range(many))), (0,) * many)
        for many in (0, 13):
            self.assert_error(BadValue, "name", "ring", nth_cut, ("a",), "a" * many, 0)
            self.assert_error(BadValue, "name", "ring", words_of_cut, ("a",), "a" * many, tuple(range(many)))


class Indexes(CodeCase):
    def test_the_number_of_the_cuts_is_no_index(self):
        for code, ring in (
            (CODE, RING), ((), "a"), (("a",), "b"), (("aa",), "aa"), (("ab",), "ab"), (("a", "aa", "aaa"), "a" * 12),
        ):
            many = count_cuts(code, ring)
            self.assert_error(BadValue, "name", "index", nth_cut, code, ring, many)
            self.assert_error(BadValue, "name", "index", nth_cut, code, ring, many + 1)
            self.assert_error(BadValue, "name", "index", nth_cut, code, ring, -1)
            if many:
                nth_cut(code, ring, many - 1)

    def test_true_and_false_are_no_indexes(self):
        for index in (True, False):
            self.assert_error(BadValue, "name", "index", nth_cut, ("aa",), "aa", index)
            self.assert_error(BadValue, "name", "index", nth_cut, ("a",), "a", index)

    def test_of_a_ring_without_cuts(self):
        for index in (0, 1, -1):
            self.assert_error(BadValue, "name", "index", nth_cut, (), "a", index)
            self.assert_error(BadValue, "name", "index", nth_cut, ("ab",), "aab", index)


class Turns(CodeCase):
    def test_the_number_of_the_letters(self):
        for ring in ("a", "ab", "abc", "a" * 12):
            rotated(ring, len(ring) - 1)
            for many in (len(ring), len(ring) + 1, 2 * len(ring), -1, -len(ring)):
                self.assert_error(BadValue, "name", "many", rotated, ring, many)

    def test_true_and_false(self):
        for many in (True, False):
            self.assert_error(BadValue, "name", "many", rotated, "abc", many)
            self.assert_error(BadValue, "name", "many", rotated, "a", many)


class Many(CodeCase):
    def test_0_1_7_and_8(self):
        for code in ((), ("a",), CODE):
            for many in (1, 7):
                count_necklaces(code, many)
            for many in (0, 8, True, False, -1):
                self.assert_error(BadValue, "name", "many", count_necklaces, code, many)


if __name__ == "__main__":
    unittest.main()
