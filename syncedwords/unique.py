"""Unique parses: whether some string has two parses, and the evidence for either answer."""

from heapq import heappop, heappush

from syncedwords.codes import MOST_WORD_LETTERS, check_code, has_letters, is_ascending, is_tuple_of
from syncedwords.parses import is_parse, joined
from syncedwords.reach import reached

MOST_MEMBERS = 64
MOST_NUMBERS = 100


def from_words(code):
    """List the remainders of the words that begin with another word."""
    return [word[len(other):] for word in code for other in code if word != other and word.startswith(other)]


def from_rest(code, rest):
    """List what comes from the rest and one word."""
    behind = [rest[len(word):] for word in code if rest.startswith(word)]
    # Every word begins with the empty rest; the document lets nothing come of it.
    if rest == "":
        return behind
    return behind + [word[len(rest):] for word in code if word.startswith(rest)]


def all_rests(code):
    """Return the rests of a code, ascending."""
    return tuple(reached(from_words(code), lambda rest: from_rest(code, rest)))


def begun_readings(code):
    """List what two readings have read that begin with different words, of which one begins with the other.

    Each is the number of letters, the letters, the rest by which one reading is ahead, and
    the parses of the reading ahead and of the one behind.
    """
    return [
        (len(word), word, word[len(other):], (number,), (lesser,))
        for number, word in enumerate(code)
        for lesser, other in enumerate(code)
        if number != lesser and word.startswith(other)
    ]


def gone_on(code, readings):
    """List to what two readings come if the one behind reads one word more."""
    many, string, rest, ahead, behind = readings
    found = []
    for number, word in enumerate(code):
        parse = behind + (number,)
        if rest.startswith(word):
            found.append((many, string, rest[len(word):], ahead, parse))
        elif word.startswith(rest):
            further = word[len(rest):]
            found.append((many + len(further), string + further, further, parse, ahead))
    return found


def least_ambiguity(code):
    """Return the first ambiguous string and two parses of it, or None if there is none."""
    queue = []
    for readings in begun_readings(code):
        heappush(queue, readings)
    done = {}
    # What is read behind a rest depends on the rest alone, and the strings come in
    # order by length: only the first string that comes to a rest has to go on.
    while queue:
        readings = heappop(queue)
        rest = readings[2]
        if rest == "":
            return readings[1], (readings[3], readings[4])
        if rest not in done:
            done[rest] = True
            for further in gone_on(code, readings):
                heappush(queue, further)
    return None


def is_unique(code):
    """Tell whether the code is uniquely decodable."""
    check_code(code, "code")
    return "" not in all_rests(code)


def rests(code):
    """Return the rests of the code, ascending."""
    check_code(code, "code")
    return all_rests(code)


def first_ambiguous(code):
    """Return the first string, in order by length, that has two parses, or None."""
    check_code(code, "code")
    found = least_ambiguity(code)
    return None if found is None else found[0]


def unique_evidence(code):
    """Return evidence that the code is uniquely decodable, or that it is not."""
    check_code(code, "code")
    found = least_ambiguity(code)
    return ("unique", all_rests(code)) if found is None else ("two", found[1])


def is_closed(code, value):
    """Tell whether the value is a closed set of the code."""
    if not isinstance(value, tuple) or len(value) > MOST_MEMBERS:
        return False
    if not all([has_letters(member, 1, MOST_WORD_LETTERS) for member in value]) or not is_ascending(value):
        return False
    come = from_words(code)
    for member in value:
        come.extend(from_rest(code, member))
    # No member is empty, so what comes is not empty if it is a member.
    return all([string in value for string in come])


def are_two_parses(code, value):
    """Tell whether the value is a pair of different parses with the same string."""
    if not is_tuple_of(value, 2):
        return False
    if not all([is_parse(code, parse) and len(parse) <= MOST_NUMBERS for parse in value]):
        return False
    return value[0] != value[1] and joined(code, value[0]) == joined(code, value[1])


def accepts_unique(code, value):
    """Tell whether the value is accepted evidence about the code, of either word."""
    check_code(code, "code")
    if not is_tuple_of(value, 2):
        return False
    if value[0] == "unique":
        return is_closed(code, value[1])
    return value[0] == "two" and are_two_parses(code, value[1])
