"""Codes that are made from codes, and codes with the same messages."""

from syncedwords.codes import LETTERS, check_code
from syncedwords.errors import BadValue
from syncedwords.parses import is_message


def without(code, number):
    """Leave the word with the number out of the code."""
    return code[:number] + code[number + 1:]


def needless(code):
    """Return the numbers of the needless words."""
    check_code(code, "code")
    return tuple([number for number, word in enumerate(code) if is_message(without(code, number), word)])


def generators(code):
    """Return the code without its needless words."""
    left_out = needless(code)
    return tuple([word for number, word in enumerate(code) if number not in left_out])


def backwards(code):
    """Return the code with all words read backwards."""
    check_code(code, "code")
    return tuple([word[::-1] for word in code])


def is_order(value):
    """Tell whether the value is an order of the letters."""
    if not isinstance(value, str) or len(value) != len(LETTERS):
        return False
    return all([letter in value for letter in LETTERS])


def renamed_word(word, order):
    """Exchange each letter of the word for the one at its place in the order."""
    return "".join([order[LETTERS.index(letter)] for letter in word])


def renamed(code, order):
    """Return the code with its letters renamed."""
    check_code(code, "code")
    if not is_order(order):
        raise BadValue("order")
    return tuple([renamed_word(word, order) for word in code])


def have_same(code, other):
    """Tell whether both codes have the same messages."""
    check_code(code, "code")
    check_code(other, "other")
    # Words suffice: a message is words one behind another, and such of messages are messages.
    there = all([is_message(other, word) for word in code])
    back = all([is_message(code, word) for word in other])
    return there and back
