"""The texts of codes and books, written."""

from syncedwords.codes import check_code, is_code, is_string, is_tuple_of
from syncedwords.errors import BadValue
from syncedwords.parses import is_parse, joined

MOST_PARSES = 6


def is_parse_of_string(code, value):
    """Tell whether the value is a parse for the code with a string of at most 24 letters."""
    return is_parse(code, value) and is_string(joined(code, value))


def is_book(value):
    """Tell whether the value is a book."""
    if not is_tuple_of(value, 2) or not is_code(value[0]):
        return False
    if not isinstance(value[1], tuple) or not 1 <= len(value[1]) <= MOST_PARSES:
        return False
    return all([is_parse_of_string(value[0], parse) for parse in value[1]])


def words_text(code):
    """Write the words of a code."""
    return " ".join(code)


def parse_text(parse):
    """Write the numbers of a parse, each behind a space."""
    return "".join([" " + str(number) for number in parse])


def code_text(code):
    """Return the text of a code."""
    check_code(code, "code")
    return words_text(code)


def book_text(book):
    """Return the text of a book."""
    if not is_book(book):
        raise BadValue("book")
    return words_text(book[0]) + ":" + ";".join([parse_text(parse) for parse in book[1]])
