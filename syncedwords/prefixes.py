"""Prefix codes: their decoder states, and the strings behind which it is certain in which of them one is."""

from syncedwords.codes import LETTERS, check_code, check_number, check_string, has_letters, is_ascending, is_tuple_of
from syncedwords.errors import BadValue, NotPossible, TooLarge
from syncedwords.unique import from_words

MOST_LETTERS = 20
MOST_STATES = 9
MOST_EVIDENCE_LETTERS = 10000


def by_length(strings):
    """List the strings, each once, in order by length."""
    ascending = sorted(set(strings))
    # Sorting leaves strings of the same length in their order.
    return sorted(ascending, key=len)


def check_prefix_code(code):
    """Raise BadValue if it is not a code, and NotPossible if it is not a prefix code with a word."""
    check_code(code, "code")
    if len(code) == 0 or len(from_words(code)) > 0:
        raise NotPossible("prefix")


def pending(code):
    """List the decoder states in order by length."""
    return by_length([word[:many] for word in code for many in range(len(word))])


def followed(code):
    """Map each letter to a dict that has, for each decoder state that it can follow, the state to which it leads."""
    states = pending(code)
    table = {letter: {} for letter in LETTERS}
    for state in states:
        for letter in LETTERS:
            if state + letter in states:
                table[letter][state] = state + letter
            elif state + letter in code:
                table[letter][state] = ""
    return table


def left_by(table, states, letter):
    """Return the states that are left of these behind the letter, in their order."""
    row = table[letter]
    return tuple(by_length([row[state] for state in states if state in row]))


def left_by_all(table, states, string):
    """Return the states that are left of these behind the string, in their order."""
    left = tuple(states)
    for letter in string:
        left = left_by(table, left, letter)
    return left


def decoder_states(code):
    """Return the decoder states of the code, in order by length."""
    check_prefix_code(code)
    return tuple(pending(code))


def left_behind(code, string):
    """Return the decoder states that are left behind the string, in their order."""
    check_prefix_code(code)
    check_string(string, "string")
    return left_by_all(followed(code), pending(code), string)


def is_synchronizing(code, string):
    """Tell whether exactly one state is left behind the string."""
    return len(left_behind(code, string)) == 1


def check_few_states(code):
    """Raise TooLarge if there are more decoder states than all sets of them are gone through for."""
    if len(pending(code)) > MOST_STATES:
        raise TooLarge("states")


def shortest(code):
    """Return the first synchronizing string, in order by length, or None."""
    check_prefix_code(code)
    check_few_states(code)
    table = followed(code)
    every = tuple(pending(code))
    # Each set of states that are left, with the first string behind which they are.
    waiting = [(every, "")]
    seen = {every: True}
    while waiting:
        states, string = waiting.pop(0)
        if len(states) == 1:
            return string
        for letter in LETTERS:
            left = left_by(table, states, letter)
            if len(left) > 0 and left not in seen:
                seen[left] = True
                waiting.append((left, string + letter))
    return None


def pair_led(table, pair, letter):
    """Return the pair of what the letter leads the states to; None in place of one that it cannot follow."""
    row = table[letter]
    return row.get(pair[0], None), row.get(pair[1], None)


def resolve(table, first, second):
    """Return the first string that resolves two different states, or None, and all pairs that strings lead to."""
    waiting = [((first, second), "")]
    seen = {(first, second): True}
    while waiting:
        pair, string = waiting.pop(0)
        for letter in LETTERS:
            further = pair_led(table, pair, letter)
            if further == (None, None) or further in seen:
                continue
            # Either the states come together, or one of them is out.
            if further[0] == further[1] or None in further:
                return string + letter, list(seen)
            seen[further] = True
            waiting.append((further, string + letter))
    return None, list(seen)


def resolving(code, first, second):
    """Return the first string, in order by length, that resolves the two states, or None."""
    check_prefix_code(code)
    states = pending(code)
    if first not in states:
        raise BadValue("first")
    if second not in states:
        raise BadValue("second")
    if first == second:
        return ""
    return resolve(followed(code), first, second)[0]


def counts_on(table, counts):
    """Map each set of states that is left behind strings with one letter more to the number of these strings."""
    further = {}
    for states in counts:
        for letter in LETTERS:
            left = left_by(table, states, letter)
            further[left] = further.get(left, 0) + counts[states]
    return further


def count_strings(code, many):
    """Return the numbers of the observable and of the synchronizing strings with so many letters."""
    check_prefix_code(code)
    check_number(many, 0, MOST_LETTERS, "many")
    check_few_states(code)
    table = followed(code)
    counts = {tuple(pending(code)): 1}
    for _ in range(many):
        counts = counts_on(table, counts)
    observable = [counts[states] for states in counts if len(states) > 0]
    synchronizing = [counts[states] for states in counts if len(states) == 1]
    return sum(observable), sum(synchronizing)


def decoder_evidence(code):
    """Return evidence with a synchronizing string, or with a stuck set."""
    check_prefix_code(code)
    table = followed(code)
    left = tuple(pending(code))
    string = ""
    # Behind each string that resolves two of the states fewer are left, but one at least.
    while len(left) > 1:
        further, pairs = resolve(table, left[0], left[1])
        if further is None:
            return "stuck", tuple(sorted(pairs))
        string += further
        left = left_by_all(table, left, further)
    return "string", string


def is_pair_of(value, states):
    """Tell whether the value is a pair of two different ones of the states."""
    if not is_tuple_of(value, 2) or value[0] == value[1]:
        return False
    return value[0] in states and value[1] in states


def is_stuck_set(code, value):
    """Tell whether the value is a stuck set."""
    states = pending(code)
    if not isinstance(value, tuple) or len(value) == 0:
        return False
    if not all([is_pair_of(pair, states) for pair in value]) or not is_ascending(value):
        return False
    table = followed(code)
    members = {pair: True for pair in value}
    led = [pair_led(table, pair, letter) for pair in value for letter in LETTERS]
    return all([pair == (None, None) or pair in members for pair in led])


def accepts_decoder(code, value):
    """Tell whether the value is accepted evidence about the code, of either word."""
    check_prefix_code(code)
    if not is_tuple_of(value, 2):
        return False
    if value[0] == "stuck":
        return is_stuck_set(code, value[1])
    if value[0] != "string" or not has_letters(value[1], 0, MOST_EVIDENCE_LETTERS):
        return False
    return len(left_by_all(followed(code), pending(code), value[1])) == 1
