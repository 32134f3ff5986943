"""What a listener knows who began anywhere in a message, and heard a string."""

from syncedwords.codes import LETTERS, check_code, check_string
from syncedwords.runs import can_stand, check_place, sets_through
from syncedwords.steps import states_of_word

AT_BOUNDARY = (0,)


def is_observable(code, string):
    """Tell whether the string is observable."""
    check_code(code, "code")
    check_string(string, "string")
    return can_stand(code, string)


def states_at(code, string, place):
    """Return the states that runs of the string have at the place."""
    check_place(code, string, place)
    return sets_through(code, string)[place]


def known_places(code, string):
    """List the places at which each run of the string has the state of the boundary."""
    return [place for place, states in enumerate(sets_through(code, string)) if states == AT_BOUNDARY]


def known_boundaries(code, string):
    """Return the known boundaries of the string, or None if it is not observable."""
    if not is_observable(code, string):
        return None
    return tuple(known_places(code, string))


def is_known_at(code, string, through, place, number):
    """Tell whether each run, of which there are these states at the places, has the word at the place."""
    word = code[number]
    # From boundary to boundary any word of one letter could lead: the letters have to be asked, too.
    if string[place:place + len(word)] != word:
        return False
    states = states_of_word(code, number)
    return through[place:place + len(word) + 1] == [(state,) for state in states]


def known_words(code, string):
    """Return pairs of the place and the number of each known word, or None if the string is not observable."""
    if not is_observable(code, string):
        return None
    through = sets_through(code, string)
    pairs = [(place, number) for place in range(len(string)) for number in range(len(code))]
    return tuple([pair for pair in pairs if is_known_at(code, string, through, pair[0], pair[1])])


def first_known(code, string):
    """Return the least number of first letters of the string with a known boundary, or None."""
    if not is_observable(code, string):
        return None
    for many in range(len(string) + 1):
        if len(known_places(code, string[:many])) > 0:
            return many
    return None


def observable_rest(code, string):
    """Return the longest rest of the string that is observable."""
    check_code(code, "code")
    check_string(string, "string")
    rests = [string[gone:] for gone in range(len(string) + 1)]
    return [rest for rest in rests if can_stand(code, rest)][0]


def next_letters(code, string):
    """Return the letters that can come behind the string, in order, or None if it is not observable."""
    if not is_observable(code, string):
        return None
    return "".join([letter for letter in LETTERS if can_stand(code, string + letter)])
