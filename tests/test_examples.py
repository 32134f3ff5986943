"""The examples of the document, as written there."""

import doctest
import os
import unittest

from syncedwords.parses import boundaries, common_boundaries, count_parses, nth_parse, string_of

MADE = '''
>>> from syncedwords.made import backwards, generators, have_same, needless, renamed
>>> from syncedwords.parses import boundaries, common_boundaries, count_parses, index_of_parse, is_message, nth_parse, string_of
>>> code = ("a", "ab", "ba")
>>> count_parses(code, "aba"), nth_parse(code, "aba", 0), nth_parse(code, "aba", 1), index_of_parse(code, (1, 0))
(2, (0, 2), (1, 0), 1)
>>> boundaries(code, "aba"), common_boundaries(code, "aba"), common_boundaries(code, "aab"), boundaries(code, "bb")
((0, 1, 2, 3), (0, 3), (0, 1, 3), ())
>>> string_of(code, (2, 1, 0)), is_message(code, "b"), is_message((), "")
('baaba', False, True)
>>> needless(("ab", "a", "aab", "aa")), generators(("ab", "a", "aab", "aa")), have_same(("ab", "a"), ("a", "aab", "ab"))
((2, 3), ('ab', 'a'), True)
>>> backwards(code), renamed(code, "bca")
(('a', 'ba', 'ab'), ('b', 'bc', 'cb'))
'''

UNIQUE = '''
>>> from syncedwords.unique import accepts_unique, first_ambiguous, is_unique, rests, unique_evidence
>>> is_unique(("a", "ab", "ba")), first_ambiguous(("a", "ab", "ba")), rests(("a", "ab", "ba"))
(False, 'aba', ('', 'a', 'b'))
>>> is_unique(("a", "ab", "bb")), rests(("a", "ab", "bb")), unique_evidence(("a", "ab", "bb"))
(True, ('b',), ('unique', ('b',)))
>>> accepts_unique(("a", "ab", "ba"), ("two", ((0, 2), (1, 0)))), accepts_unique(("a", "ab", "ba"), ("unique", ("a", "b")))
(True, False)
>>> accepts_unique(("ab", "c"), ("unique", ())), first_ambiguous(("a", "abb", "bba")), rests(("a", "abb", "bba"))
(True, 'abba', ('', 'a', 'bb'))
'''

RINGS = '''
>>> from syncedwords.rings import count_cuts, count_necklaces, index_of_cut, is_cut, least_rotation, nth_cut, offset, root, rotated, words_of_cut
>>> turned = ("ab", "ba")
>>> count_cuts(turned, "abab"), nth_cut(turned, "abab", 1), words_of_cut(turned, "abab", (1, 3)), index_of_cut(turned, "abab", (0, 1)) is None
(2, (1, 3), (1, 1), True)
>>> count_cuts(("aa",), "aa"), count_cuts(("a", "ab"), "aba"), nth_cut(("a", "b", "ab"), "ab", 1), is_cut(("abb",), "bab", (1,))
(2, 1, (0, 1), True)
>>> root("abab"), root("aba"), least_rotation("bab"), offset("abab", "baba"), offset("ab", "aa") is None, rotated("abc", 2)
(('ab', 2), ('aba', 1), ('abb', 1), 1, True, 'cab')
>>> count_necklaces(turned, 4), count_necklaces(("a", "ab"), 3), count_necklaces(("a", "b", "c"), 2), count_necklaces((), 3)
(1, 1, 3, 0)
'''

RANKS = '''
>>> from syncedwords.ranks import accepts_sync, sync_evidence
>>> from syncedwords.sync import delay, is_synced, longest_unsynced, states
>>> states(("a", "ab")), delay(("a", "ab")), is_synced(("a", "ab")), longest_unsynced(("a", "ab"))
([None, (1, 1)], 1, True, '')
>>> sync_evidence(("a", "ab"))
('ranks', (((0, 1), 1), ((1, 0), 1), ((1, 1), 1)), ((0, 1), (1, 0)))
>>> delay(("ab", "ba")), is_synced(("ab", "ba")), accepts_sync(("ab", "ba"), ("ring", "ab", (0,), (1,)))
(None, False, True)
>>> delay(("a", "b", "ab")), is_synced(("a", "b", "ab")), accepts_sync(("a", "b", "ab"), ("ring", "ab", (0,), (0, 1)))
(1, False, True)
>>> delay(("a", "ab", "abb")), longest_unsynced(("a", "ab", "abb")), delay(()), sync_evidence(())
(2, 'b', 0, ('ranks', (), ()))
'''

HEARING = '''
>>> from syncedwords.hearing import accepts_place, place_evidence
>>> from syncedwords.listeners import first_known, is_observable, known_boundaries, known_words, next_letters, observable_rest, states_at
>>> late = ("a", "ab")
>>> known_boundaries(late, "aab"), known_words(late, "aab"), first_known(late, "aab"), states_at(late, "a", 1)
((0, 1, 3), ((0, 0), (1, 1)), 1, (0, 1))
>>> is_observable(late, "bb"), known_boundaries(late, "bb") is None, observable_rest(late, "abba"), next_letters(late, "ab")
(False, True, 'ba', 'a')
>>> known_boundaries(("ab", "ba"), "aba"), known_boundaries(("ab", "ba"), "aa"), known_words(("a", "b", "ab"), "ab")
((), (1,), ())
>>> place_evidence(late, "a", 1)[0], accepts_place(late, "a", 1, ("open", (0, 1)))
('open', True)
>>> accepts_place(late, "aab", 1, ("known", ((0, 1), (0, 1)), ((0,), (1,), (0, 1)))), accepts_place(late, "a", 0, ("known", ((0, 1),), ((0,), (0, 1))))
(True, True)
'''

PREFIXES = '''
>>> from syncedwords.prefixes import accepts_decoder, count_strings, decoder_evidence, decoder_states, is_synchronizing, left_behind, resolving, shortest
>>> code = ("a", "ba", "bb")
>>> decoder_states(code), left_behind(code, "bb"), is_synchronizing(code, "a"), shortest(code), count_strings(code, 3)
(('', 'b'), ('', 'b'), True, 'a', (8, 7))
>>> stuck = ("aa", "ab", "ba", "bb")
>>> decoder_states(stuck), shortest(stuck) is None, resolving(stuck, "", "a") is None, resolving(stuck, "a", "b")
(('', 'a', 'b'), True, True, 'a')
>>> accepts_decoder(stuck, ("stuck", (("", "a"), ("", "b"), ("a", ""), ("b", "")))), accepts_decoder(code, ("string", "ba")), decoder_evidence(stuck)[0]
(True, True, 'stuck')
>>> left_behind(("ab", "b"), "a"), left_behind(("ab", "b"), "aa"), shortest(("aab", "ab", "b")), shortest(("a",)), shortest(("aa",)) is None
(('a',), (), 'b', '', True)
'''

LENGTHS = '''
>>> from syncedwords.lengths import extended, first_failing, kraft_sum, more_words, necklaces, word_necklaces
>>> [necklaces(2, length) for length in (1, 2, 3, 4, 5, 6)], [word_necklaces((1, 1), length) for length in (1, 2, 3, 4, 5, 6)]
([2, 1, 2, 3, 6, 9], [1, 1, 1, 1, 2, 2])
>>> first_failing(2, (1, 1)) is None, first_failing(2, (0, 2)), first_failing(1, (0, 1)), first_failing(2, (2, 1))
(True, 2, 2, 2)
>>> more_words(2, (1, 1), 3), more_words(2, (1, 1), 4), more_words(2, (0, 1), 1), more_words(2, (2, 1), 3) is None
(1, 2, 1, True)
>>> extended(2, (), 3), extended(2, (1,), 4), extended(2, (0,), 3), kraft_sum(2, (1, 1)), kraft_sum(2, (2, 1)), kraft_sum(3, ())
((2, 0, 0), (1, 1, 1, 1), (0, 1, 2), (3, 4), (5, 4), (0, 1))
'''

MAKING = '''
>>> from syncedwords.making import accepts_journal, became, code_of, eliminated, made_code, told_journal
>>> eliminated(("a", "b"), "b", 3), made_code(2, (1, 1, 1)), made_code(2, (2, 1)) is None, made_code(2, ())
(('a', 'ba', 'bba'), ('a', 'ba', 'bba'), True, ())
>>> told_journal(2, (1, 1, 1))
(('keep', 'a'), ('drop', 'b'), ('keep', 'ba'), ('keep', 'bba'))
>>> made_code(2, (0, 0, 2)), became(2, (1, 1, 1), "b"), became(2, (1, 1, 1), "aab"), became(2, (1, 1, 1), "abb")
(('aab', 'bab'), ('dropped', 'b'), ('cut', (1, 2)), ('cut', (1,)))
>>> accepts_journal(2, (1, 1, 1), (("drop", "a"), ("keep", "b"), ("keep", "ab"), ("keep", "aab")))
True
>>> code_of(2, (1, 1, 1), (("drop", "a"), ("keep", "b"), ("keep", "ab"), ("keep", "aab"))), accepts_journal(2, (1,), (("keep", "a"),))
(('b', 'ab', 'aab'), False)
'''

CORRECTION = '''
>>> from syncedwords.correction import accepts_errors, correction, errors_evidence, first_error, least_errors
>>> from syncedwords.distance import distance, led
>>> distance("abc", "ac"), distance("", "abab"), led("aab", (("drop",), ("keep",), ("keep",))), led("aab", (("keep",),)) is None
(1, 4, 'ab', True)
>>> code = ("ab", "ba")
>>> least_errors(code, "aab"), correction(code, "aab"), first_error(code, "aab"), first_error(code, "aba") is None
(1, 'ab', 2, True)
>>> least_errors(code, "abaab"), correction(code, "abaab"), correction((), "abc"), correction(code, "abba")
(1, 'abab', '', 'abba')
>>> accepts_errors(code, "aab", 1, errors_evidence(code, "aab")), accepts_errors(code, "a", 1, ((), (("drop",),), ((1, 0, 0), (0, 1, 1))))
(True, True)
>>> accepts_errors(code, "a", 1, ((), (("drop",),), ((2, 0, 0), (0, 1, 1)))), accepts_errors(code, "ab", 2, ((), (("drop",), ("drop",)), ((2, 1, 2), (1, 0, 2), (0, 1, 1))))
(False, False)
'''

WRITING = '''
>>> from syncedwords.reading import next_tokens, read_book, read_code
>>> from syncedwords.writing import book_text, code_text, is_book
>>> read_code("a ab ba"), read_book("a ab ba: 0 2; 1 0"), read_book(":")
(('a', 'ab', 'ba'), (('a', 'ab', 'ba'), ((0, 2), (1, 0))), ((), ((),)))
>>> code_text(("a", "ab")), book_text((("a",), ((0, 0), (), (0,)))), code_text(()), is_book((("a",), ()))
('a ab', 'a: 0 0;; 0', '', False)
>>> next_tokens("a ab", "code"), next_tokens("", "book"), next_tokens("a: 0", "book")
(['a word', 'the end'], ['a word', '":"'], ['a number', '";"', 'the end'])

>>> from syncedwords.reading import read_book
>>> read_book("a ab: 0 2")
raises TextError
'''

JOURNALS = '''
>>> from syncedwords.broadcast import Broadcast
>>> from syncedwords.journals import are_right, replayed
>>> broadcast = Broadcast(("a", "ab"))
>>> broadcast.act(("send", 1)), broadcast.act(("join",)), broadcast.act(("step",)), broadcast.heard(0), broadcast.knows(0), broadcast.inside()
(1, 2, 3, 'b', (1,), None)
>>> broadcast.act(("join",)), broadcast.act(("send", 0)), broadcast.knows(0), broadcast.knows(1), broadcast.sent(), broadcast.joined()
(4, 5, (1,), (0,), 'aba', (1, 2))
>>> broadcast.records()[-1], broadcast.undo(), broadcast.sent(), broadcast.act(("leave", 0)), broadcast.joined()
((('send', 0), ((1,), (0,))), ('send', 0), 'ab', 5, (2,))
>>> are_right(("a", "ab"), ((("join",), ((),)), (("send", 0), ((0,),)))), replayed(("ab", "ba"), (("send", 1), ("step",))).sent()
(True, 'ba')
'''


class InterfaceExamples(unittest.TestCase):
    def run_examples(self, name, text):
        examples = doctest.DocTestParser().get_doctest(text, {}, name, None, None)
        self.assertGreater(len(examples.examples), 0)
        for example in examples.examples:
            if example.want.startswith("raises "):
                example.exc_msg = example.want.removeprefix("raises ")
                example.options[doctest.IGNORE_EXCEPTION_DETAIL] = True
        told = []
        result = doctest.DocTestRunner(verbose=False).run(examples, out=told.append)
        self.assertEqual(result.failed, 0, "".join(told))
        self.assertEqual(result.attempted, len(examples.examples))

    def test_made(self):
        self.run_examples("syncedwords/made.py", MADE)

    def test_unique(self):
        self.run_examples("syncedwords/unique.py", UNIQUE)

    def test_rings(self):
        self.run_examples("syncedwords/rings.py", RINGS)

    def test_ranks(self):
        self.run_examples("syncedwords/ranks.py", RANKS)

    def test_hearing(self):
        self.run_examples("syncedwords/hearing.py", HEARING)

    def test_prefixes(self):
        self.run_examples("syncedwords/prefixes.py", PREFIXES)

    def test_lengths(self):
        self.run_examples("syncedwords/lengths.py", LENGTHS)

    def test_making(self):
        self.run_examples("syncedwords/making.py", MAKING)

    def test_correction(self):
        self.run_examples("syncedwords/correction.py", CORRECTION)

    def test_writing(self):
        self.run_examples("syncedwords/writing.py", WRITING)

    def test_journals(self):
        self.run_examples("syncedwords/journals.py", JOURNALS)

    def test_readme(self):
        root = os.path.dirname(os.path.dirname(os.path.abspath(__file__)))
        with open(os.path.join(root, "README.md"), encoding="utf-8") as file:
            self.run_examples("README.md", file.read())


class Point18(unittest.TestCase):
    CODE = ("a", "ab", "ba")

    def test_the_two_parses(self):
        self.assertEqual(count_parses(self.CODE, "aba"), 2)
        self.assertEqual(nth_parse(self.CODE, "aba", 0), (0, 2))
        self.assertEqual(nth_parse(self.CODE, "aba", 1), (1, 0))
        self.assertEqual(string_of(self.CODE, (0, 2)), "aba")
        self.assertEqual(string_of(self.CODE, (1, 0)), "aba")

    def test_boundaries_of_one_of_them_each(self):
        self.assertEqual(boundaries(self.CODE, "aba"), (0, 1, 2, 3))
        self.assertEqual(common_boundaries(self.CODE, "aba"), (0, 3))


if __name__ == "__main__":
    unittest.main()
