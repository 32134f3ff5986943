"""The parses of strings: counted, by index, and their boundaries."""

from syncedwords.codes import MOST_STRING_LETTERS, check_code, check_number, check_string, is_number
from syncedwords.errors import BadValue, NotPossible, TooLarge


def is_parse(code, value):
    """Tell whether the value is a parse for the code."""
    if not isinstance(value, tuple):
        return False
    return all([is_number(number, 0, len(code) - 1) for number in value])


def joined(code, parse):
    """Put the words of the parse one behind another."""
    return "".join([code[number] for number in parse])


def string_of(code, parse):
    """Return the string of the parse."""
    check_code(code, "code")
    if not is_parse(code, parse):
        raise BadValue("parse")
    string = joined(code, parse)
    if len(string) > MOST_STRING_LETTERS:
        raise TooLarge("string")
    return string


def shares(code, string, place, counts):
    """List, for each word, how many parses of the letters behind the place begin with it.

    The counts tell for each later place how many parses the letters behind it have.
    """
    rest = string[place:]
    return [counts[place + len(word)] if rest.startswith(word) else 0 for word in code]


def counts_behind(code, string):
    """List, for each place of the string, how many parses the letters behind it have."""
    counts = [0] * len(string) + [1]
    for place in reversed(range(len(string))):
        counts[place] = sum(shares(code, string, place, counts))
    return counts


def counts_ahead(code, string):
    """List, for each place of the string, how many parses the letters ahead of it have."""
    counts = [1]
    for place in range(1, len(string) + 1):
        ahead = string[:place]
        counts.append(sum([counts[place - len(word)] for word in code if ahead.endswith(word)]))
    return counts


def counts_through(code, string):
    """List, for each place of the string, how many of its parses have a boundary there."""
    ahead = counts_ahead(code, string)
    behind = counts_behind(code, string)
    return [before * after for before, after in zip(ahead, behind)]


def count_parses(code, string):
    """Return the number of the parses of the string."""
    check_code(code, "code")
    check_string(string, "string")
    return counts_behind(code, string)[0]


def is_message(code, string):
    """Tell whether the string has a parse."""
    return count_parses(code, string) > 0


def parse_at(code, string, counts, index):
    """Return the parse of the string with the index, by the counts of the parses behind each of its places."""
    parse = []
    place = 0
    left = index
    while place < len(string):
        many = shares(code, string, place, counts)
        number = 0
        while left >= many[number]:
            left -= many[number]
            number += 1
        parse.append(number)
        place += len(code[number])
    return tuple(parse)


def nth_parse(code, string, index):
    """Return the parse of the string with the index."""
    check_code(code, "code")
    check_string(string, "string")
    counts = counts_behind(code, string)
    check_number(index, 0, counts[0] - 1, "index")
    return parse_at(code, string, counts, index)


def index_of_parse(code, parse):
    """Return the index of the parse among those of its string."""
    string = string_of(code, parse)
    counts = counts_behind(code, string)
    index = 0
    place = 0
    for number in parse:
        # Ahead of the parse are those that agree up to here and then have a lesser number.
        index += sum(shares(code, string, place, counts)[:number])
        place += len(code[number])
    return index


def boundaries(code, string):
    """Return the places that are boundaries of some parse of the string."""
    check_code(code, "code")
    check_string(string, "string")
    through = counts_through(code, string)
    return tuple([place for place, many in enumerate(through) if many > 0])


def common_boundaries(code, string):
    """Return the places that are boundaries of all parses of the string."""
    check_code(code, "code")
    check_string(string, "string")
    through = counts_through(code, string)
    # Every parse has the boundary 0, so this is the number of all of them.
    total = through[0]
    if total == 0:
        raise NotPossible("message")
    return tuple([place for place, many in enumerate(through) if many == total])
