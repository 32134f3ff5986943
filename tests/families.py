"""Codes to test with: small ones all together, and some that are chosen by a fixed sequence of numbers."""

import itertools
import random

from tests.oracle import strings_up_to

FIVE = ("abcab", "bcabc", "cabca", "abbca", "caabb", "bbbcc")
# Six words of five letters, of which parts of some are at the ends of others.
PERIODIC = ("ababa", "babab", "abaab", "baaba", "aabab", "babaa")


def small_codes():
    """All codes of at most three words of one or two of the letters a and b, and of some of three letters."""
    words = strings_up_to(2, "ab")[1:] + ["aab", "aba", "bba"]
    return [code for many in range(4) for code in itertools.combinations(words, many)]


def chosen_codes(many, seed, letters="abc", most=5, words=6):
    """So many codes with up to so many words of up to so many letters, always the same ones."""
    numbers = random.Random(seed)
    pool = strings_up_to(most, letters)[1:]
    codes = []
    for _ in range(many):
        top = numbers.randrange(1, most + 1)
        short = [word for word in pool if len(word) <= top]
        codes.append(tuple(numbers.sample(short, numbers.randrange(1, min(words, len(short)) + 1))))
    return codes
