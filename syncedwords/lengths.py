"""How many words of each length a circular code can have."""

from math import gcd

from syncedwords.codes import check_number, is_number
from syncedwords.errors import BadValue

MOST_SIZE = 3
MOST_LENGTHS = 8
MOST_COUNT = 1000
MOST_LENGTH = 12


def check_size(size):
    """Raise BadValue if it is not a number of letters."""
    check_number(size, 1, MOST_SIZE, "size")


def are_counts(value, lengths, most):
    """Tell whether the value is a tuple of at most so many integers, from 0 to the most."""
    if not isinstance(value, tuple) or len(value) > lengths:
        return False
    return all([is_number(count, 0, most) for count in value])


def check_counts(counts):
    """Raise BadValue if they are not counts."""
    if not are_counts(counts, MOST_LENGTHS, MOST_COUNT):
        raise BadValue("counts")


def power(base, many):
    """Multiply so many times with the base."""
    result = 1
    for _ in range(many):
        result *= base
    return result


def moebius(number):
    """Return the Moebius number of the number."""
    sign = 1
    left = number
    for prime in range(2, number + 1):
        if left % prime == 0:
            left = left // prime
            sign = -sign
            if left % prime == 0:
                return 0
    return sign


def primitive_rings(around, length):
    """Return how many primitive rings there are, counted with turnings once, if so many go around of each length."""
    divisors = [divisor for divisor in range(1, length + 1) if length % divisor == 0]
    return sum([moebius(divisor) * around[length // divisor] for divisor in divisors]) // length


def count_rings(size, length):
    """Return the number of the necklaces of the length."""
    return primitive_rings([power(size, many) for many in range(length + 1)], length)


def turns_to(counts, length):
    """List the turns of each number of letters up to the length; those of 0 letters are 0."""
    wanted = [0] + list(counts) + [0] * length
    turns = [0]
    for many in range(1, length + 1):
        behind = sum([wanted[first] * turns[many - first] for first in range(1, many)])
        turns.append(many * wanted[many] + behind)
    return turns


def count_word_rings(counts, length):
    """Return the number of the word necklaces of the length."""
    return primitive_rings(turns_to(counts, length), length)


def room(size, counts, length):
    """Return how many necklaces of the length there are more than word necklaces."""
    return count_rings(size, length) - count_word_rings(counts, length)


def least_failing(size, counts):
    """Return the least length, up to that of the counts, that fails, or None."""
    for length in range(1, len(counts) + 1):
        if room(size, counts, length) < 0:
            return length
    return None


def necklaces(size, length):
    """Return the number of the necklaces of the length."""
    check_size(size)
    check_number(length, 1, MOST_LENGTH, "length")
    return count_rings(size, length)


def word_necklaces(counts, length):
    """Return the number of the word necklaces of the length."""
    check_counts(counts)
    check_number(length, 1, MOST_LENGTH, "length")
    return count_word_rings(counts, length)


def first_failing(size, counts):
    """Return the least length, up to that of the counts, that fails, or None."""
    check_size(size)
    check_counts(counts)
    return least_failing(size, counts)


def with_more(counts, length, more):
    """Add so many words of the length to the counts."""
    return counts[:length - 1] + (counts[length - 1] + more,) + counts[length:]


def more_words(size, counts, length):
    """Return how many more words of the length there can be beside the counts, or None if a length fails."""
    check_size(size)
    check_counts(counts)
    check_number(length, 1, MOST_LENGTH, "length")
    if least_failing(size, counts) is not None:
        return None
    longer = counts + (0,) * (length - len(counts))
    # A word more is a word necklace more of its own length, and of greater ones no fewer.
    least = 0
    most = room(size, longer, length)
    while least < most:
        middle = (least + most + 1) // 2
        if least_failing(size, with_more(longer, length, middle)) is None:
            least = middle
        else:
            most = middle - 1
    return least


def extended(size, counts, most):
    """Return the counts extended to so many lengths, or None if a length fails."""
    check_size(size)
    check_counts(counts)
    check_number(most, len(counts), MOST_LENGTH, "most")
    if least_failing(size, counts) is not None:
        return None
    longer = counts
    for length in range(len(counts) + 1, most + 1):
        longer = longer + (room(size, longer, length),)
    return longer


def kraft_sum(size, counts):
    """Return the Kraft sum of the counts, as a pair without a common divisor."""
    check_size(size)
    check_counts(counts)
    below = power(size, len(counts))
    above = sum([count * power(size, len(counts) - length) for length, count in enumerate(counts, start=1)])
    common = gcd(above, below)
    return above // common, below // common
