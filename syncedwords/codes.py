"""What a code and a string are, and the checks of arguments."""

from syncedwords.errors import BadValue

LETTERS = "abc"
MOST_WORDS = 6
MOST_WORD_LETTERS = 5
MOST_STRING_LETTERS = 24


def has_letters(value, least, most):
    """Tell whether the value is a string of so many letters, all of them a, b or c."""
    if not isinstance(value, str) or not least <= len(value) <= most:
        return False
    return all([letter in LETTERS for letter in value])


def are_words(value, many, letters):
    """Tell whether the value is a tuple of at most so many different strings of 1 letter to so many."""
    if not isinstance(value, tuple) or len(value) > many:
        return False
    # A set can hold the items only once they are known to be strings.
    if not all([has_letters(word, 1, letters) for word in value]):
        return False
    return len(set(value)) == len(value)


def is_code(value):
    """Tell whether the value is a code."""
    return are_words(value, MOST_WORDS, MOST_WORD_LETTERS)


def is_string(value):
    """Tell whether the value is a string of at most 24 letters."""
    return has_letters(value, 0, MOST_STRING_LETTERS)


def is_integer(value):
    """Tell whether the value is an integer."""
    # Python counts True and False among the integers; the document does not.
    return isinstance(value, int) and not isinstance(value, bool)


def is_number(value, least, most):
    """Tell whether the value is an integer from the least one to the most."""
    return is_integer(value) and least <= value <= most


def is_ascending(row):
    """Tell whether each item of the row is less than the next one."""
    return all([item < further for item, further in zip(row, row[1:])])


def is_tuple_of(value, many):
    """Tell whether the value is a tuple of so many items."""
    return isinstance(value, tuple) and len(value) == many


def check_code(value, name):
    """Raise BadValue with the name of the argument if the value is not a code."""
    if not is_code(value):
        raise BadValue(name)


def check_string(value, name):
    """Raise BadValue with the name of the argument if the value is not a string of at most 24 letters."""
    if not is_string(value):
        raise BadValue(name)


def check_number(value, least, most, name):
    """Raise BadValue with the name of the argument if the value is not such an integer."""
    if not is_number(value, least, most):
        raise BadValue(name)
