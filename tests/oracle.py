"""What the document says, said again in the most direct way, to compare the program with."""

import itertools
import unittest

CODES = (
    (),
    ("a",),
    ("abc",),
    ("a", "ab", "ba"),
    ("ba", "ab", "a"),
    ("a", "aa", "aaa"),
    ("aaa", "a", "aa"),
    ("ab", "a", "aab", "aa"),
    ("a", "b", "c"),
    ("a", "b", "c", "ab", "bc", "abc"),
    ("c", "cb", "bc", "ccb", "bb", "cbcbc"),
    ("aabba", "ab", "ba", "aab", "bba", "b"),
    ("a", "ab", "bb"),
    ("ab", "ba"),
)

# A code with a delay of 32 letters.
LATE = ("ababa", "acaab", "bbbac", "cacac", "aabbb", "baca")
LONG = "abcabcabcabcabcabcabcabc"


def strings_up_to(most, letters="abc"):
    """All strings of at most so many of the letters, in order by length."""
    return [
        "".join(row)
        for many in range(most + 1)
        for row in itertools.product(letters, repeat=many)
    ]


def all_parses(code, string):
    """All parses of the string, in order as tuples."""
    if string == "":
        return [()]
    found = []
    for number, word in enumerate(code):
        if string[:len(word)] == word:
            found += [(number,) + rest for rest in all_parses(code, string[len(word):])]
    return sorted(found)


def places_of(code, parse):
    """The boundaries of a parse."""
    return {
        sum(len(code[number]) for number in parse[:many])
        for many in range(len(parse) + 1)
    }


def make_words(code, ring, places):
    """Tell whether the places make words, and list the words, going letter by letter around the ring."""
    words = []
    for number, place in enumerate(places):
        end = places[(number + 1) % len(places)]
        word = ring[place]
        at = (place + 1) % len(ring)
        while at != end:
            word += ring[at]
            at = (at + 1) % len(ring)
        words.append(word)
    return all(word in code for word in words), words


def all_cuts(code, ring):
    """All cuts of the ring, in the order of tuples."""
    places = [
        row for many in range(1, len(ring) + 1) for row in itertools.combinations(range(len(ring)), many)
    ]
    return sorted(row for row in places if make_words(code, ring, row)[0])


def ways_of(code, string):
    """The sets of places that are boundaries, one for each way in which the string stands in a message."""
    found = set()
    # The string begins behind some first letters of a word (not all), and words follow.
    waiting = [(0, word[gone:], frozenset([0] if gone == 0 else [])) for word in code for gone in range(len(word))]
    if not code and string == "":
        found.add(frozenset([0]))
    seen = set()
    while waiting:
        place, left, places = waiting.pop()
        rest = string[place:]
        if (place, left, places) in seen:
            continue
        seen.add((place, left, places))
        if left.startswith(rest) and len(left) > len(rest):
            found.add(places)
        elif rest.startswith(left):
            there = place + len(left)
            if there == len(string):
                found.add(places | {there})
            else:
                waiting += [(there, word, places | {there}) for word in code]
    return found


def all_states(code):
    listed = [None]
    for number, word in enumerate(code):
        listed += [(number, letters) for letters in range(1, len(word))]
    return listed


def leads(code, letter):
    """From which states to which ones the letter leads: pairs of states as the program tells them."""
    found = set()
    for number, word in enumerate(code):
        for at, there in enumerate(word):
            if there == letter:
                here = None if at == 0 else (number, at)
                found.add((here, None if at + 1 == len(word) else (number, at + 1)))
    return found


def pair_ranks(code):
    """The rank of each pair that is apart, by going on from it again and again; None for those without one."""
    apart = [pair for pair in itertools.product(all_states(code), repeat=2) if pair != (None, None)]
    further = {pair: set() for pair in apart}
    for letter in "abc":
        ways = leads(code, letter)
        for first, one in ways:
            for second, other in ways:
                if (first, second) in further and (one, other) in further:
                    further[first, second].add((one, other))
    ranks = {pair: 0 for pair in apart}
    # A way with more pairs than there are comes to one of them twice, and then has no end.
    for step in range(1, len(apart) + 2):
        longer = {pair: 1 + max([ranks[there] for there in further[pair]], default=0) for pair in apart}
        if longer == ranks:
            return ranks
        ranks = longer
    return {pair: rank if rank <= len(apart) else None for pair, rank in ranks.items()}


class CodeCase(unittest.TestCase):
    """A test case that can ask for an error with its attribute, and for results of a kind."""

    def assert_error(self, error, attribute, word, function, *arguments):
        with self.subTest(function=function.__name__, arguments=arguments):
            with self.assertRaises(error) as caught:
                function(*arguments)
            self.assertIs(type(caught.exception), error)
            self.assertEqual(getattr(caught.exception, attribute), word)

    def assert_same(self, result, expected):
        """Compare results together with their kinds, also of what is in tuples: True is not 1."""
        self.assertEqual(result, expected)
        self.assertIs(type(result), type(expected))
        if isinstance(expected, (tuple, list)):
            for item, wanted in zip(result, expected):
                self.assert_same(item, wanted)
