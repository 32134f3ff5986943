"""The examples of the document, as written there."""

import doctest
import os
import unittest

from syncedwords.parses import boundaries, common_boundaries, count_parses, nth_parse, string_of

MADE = '''
>>> from syncedwords.made import backwards, generators, have_same, needless, renamed
>>> from syncedwords.parses import boundaries, common_boundaries, count_parses, index_of_parse, is_message, nth_parse, string_of
>>> code = ("a", "ab", "ba")
>>> count_parses(code, "aba"), nth_parse(code, "aba", 0), nth_parse(code, "aba", 1), index_of_parse(code, (1, 0))
(2, (0, 2), (1, 0), 1)
>>> boundaries(code, "aba"), common_boundaries(code, "aba"), common_boundaries(code, "aab"), boundaries(code, "bb")
((0, 1, 2, 3), (0, 3), (0, 1, 3), ())
>>> string_of(code, (2, 1, 0)), is_message(code, "b"), is_message((), "")
('baaba', False, True)
>>> needless(("ab", "a", "aab", "aa")), generators(("ab", "a", "aab", "aa")), have_same(("ab", "a"), ("a", "aab", "ab"))
((2, 3), ('ab', 'a'), True)
>>> backwards(code), renamed(code, "bca")
(('a', 'ba', 'ab'), ('b', 'bc', 'cb'))
'''


class InterfaceExamples(unittest.TestCase):
    def run_examples(self, name, text):
        examples = doctest.DocTestParser().get_doctest(text, {}, name, None, None)
        self.assertGreater(len(examples.examples), 0)
        told = []
        result = doctest.DocTestRunner(verbose=False).run(examples, out=told.append)
        self.assertEqual(result.failed, 0, "".join(told))
        self.assertEqual(result.attempted, len(examples.examples))

    def test_made(self):
        self.run_examples("syncedwords/made.py", MADE)

    def test_readme(self):
        root = os.path.dirname(os.path.dirname(os.path.abspath(__file__)))
        with open(os.path.join(root, "README.md"), encoding="utf-8") as file:
            self.run_examples("README.md", file.read())


class Point18(unittest.TestCase):
    CODE = ("a", "ab", "ba")

    def test_the_two_parses(self):
        self.assertEqual(count_parses(self.CODE, "aba"), 2)
        self.assertEqual(nth_parse(self.CODE, "aba", 0), (0, 2))
        self.assertEqual(nth_parse(self.CODE, "aba", 1), (1, 0))
        self.assertEqual(string_of(self.CODE, (0, 2)), "aba")
        self.assertEqual(string_of(self.CODE, (1, 0)), "aba")

    def test_boundaries_of_one_of_them_each(self):
        self.assertEqual(boundaries(self.CODE, "aba"), (0, 1, 2, 3))
        self.assertEqual(common_boundaries(self.CODE, "aba"), (0, 3))


if __name__ == "__main__":
    unittest.main()
