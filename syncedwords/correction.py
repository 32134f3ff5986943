"""The messages that are nearest to a string, with evidence of how many errors they need."""

from syncedwords.codes import LETTERS, check_code, check_number, check_string, is_integer, is_tuple_of
from syncedwords.distance import are_steps, count_errors, follow, steps_between
from syncedwords.parses import counts_behind, is_parse, joined, parse_at
from syncedwords.steps import all_states, leading, led_on

MOST_ERRORS = 24
MOST_PARSE_NUMBERS = 100


def ways_on(code):
    """List, for each state, the pairs of a letter and a state to which it leads from there."""
    leads = leading(code)
    states = list(range(len(all_states(code))))
    return [[(letter, further) for letter in LETTERS for further in leads[letter][state]] for state in states]


# An ending is what is still to be sent from a state on: the errors with which it comes of what is left of the
# string, the number of its letters, and these letters. So the least one of some endings is the one with the
# least errors, and of several such ones the first one in order by length.


def ending_ahead(ending, errors, letter):
    """Return the ending with a step ahead of it, which has so many errors and leads to the letter, or to none."""
    return ending[0] + errors, ending[1] + len(letter), letter + ending[2]


def last_endings(code):
    """List, for each state, the least ending if nothing is left of the string."""
    inside = [code[state[0]][state[1]:] for state in all_states(code) if state is not None]
    return [(len(rest), len(rest), rest) for rest in [""] + inside]


def with_puts(ways, row):
    """List, for each state, the least ending that begins with any number of letters put in, and then is of the row."""
    better = [
        min([row[state]] + [ending_ahead(row[further], 1, letter) for letter, further in ways[state]])
        for state in range(len(row))
    ]
    return row if better == row else with_puts(ways, better)


def endings_ahead(ways, row, letter):
    """List, for each state, the least ending if the letter is left of the string, and then what the row is for."""
    endings = []
    for state in range(len(row)):
        dropped = ending_ahead(row[state], 1, "")
        sent = [ending_ahead(row[further], 0 if other == letter else 1, other) for other, further in ways[state]]
        endings.append(min([dropped] + sent))
    return with_puts(ways, endings)


def least_endings(code, string):
    """List rows with, for each place of the string, the least ending of each state."""
    ways = ways_on(code)
    rows = [last_endings(code)]
    for letter in reversed(string):
        rows = [endings_ahead(ways, rows[0], letter)] + rows
    return rows


def least_errors(code, string):
    """Return the least errors of the string."""
    check_code(code, "code")
    check_string(string, "string")
    return least_endings(code, string)[0][0][0]


def correction(code, string):
    """Return the first message, in order by length, of those that are nearest to the string."""
    check_code(code, "code")
    check_string(string, "string")
    return least_endings(code, string)[0][0][2]


def first_error(code, string):
    """Return the least number of first letters of the string with which no message begins, or None."""
    check_code(code, "code")
    check_string(string, "string")
    leads = leading(code)
    states = [0]
    for many, letter in enumerate(string, start=1):
        states = led_on(leads, states, letter)
        if len(states) == 0:
            return many
    return None


def errors_evidence(code, string):
    """Return evidence for the least errors of the string."""
    check_code(code, "code")
    check_string(string, "string")
    rows = least_endings(code, string)
    message = rows[0][0][2]
    parse = parse_at(code, message, counts_behind(code, message), 0)
    floors = tuple([tuple([ending[0] for ending in row]) for row in rows])
    return parse, steps_between(string, message), floors


def are_floors(value, places, states):
    """Tell whether the value has an integer for each state at each place."""
    if not is_tuple_of(value, places) or not all([is_tuple_of(row, states) for row in value]):
        return False
    return all([is_integer(number) for row in value for number in row])


def bounds_of(ways, string, floors, place, state):
    """List what the number of the state at the place is at most in right floors."""
    bounds = [floors[place][further] + 1 for _, further in ways[state]]
    if place < len(string):
        later = floors[place + 1]
        bounds.append(later[state] + 1)
        bounds.extend([later[further] + (0 if letter == string[place] else 1) for letter, further in ways[state]])
    elif state == 0:
        bounds.append(0)
    return bounds


def are_right_floors(code, string, floors):
    """Tell whether the value is floors for the string, and right ones."""
    ways = ways_on(code)
    if not are_floors(floors, len(string) + 1, len(ways)):
        return False
    for place, row in enumerate(floors):
        for state, number in enumerate(row):
            if not all([number <= bound for bound in bounds_of(ways, string, floors, place, state)]):
                return False
    return True


def accepts_parse(code, value):
    """Tell whether the value is a parse with at most 100 numbers."""
    return isinstance(value, tuple) and len(value) <= MOST_PARSE_NUMBERS and is_parse(code, value)


def accepts_errors(code, string, number, value):
    """Tell whether the value is evidence that the number is the least errors of the string."""
    check_code(code, "code")
    check_string(string, "string")
    check_number(number, 0, MOST_ERRORS, "number")
    if not is_tuple_of(value, 3) or not accepts_parse(code, value[0]) or not are_steps(value[1]):
        return False
    if follow(string, value[1]) != joined(code, value[0]) or count_errors(value[1]) != number:
        return False
    return are_right_floors(code, string, value[2]) and value[2][0][0] >= number
