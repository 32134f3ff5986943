"""The runs of a string: which states they have at its places."""

from syncedwords.codes import check_code, check_number, check_string
from syncedwords.errors import NotPossible
from syncedwords.steps import all_states, leading, led_back, led_on


def sets_ahead(leads, many, string):
    """List, for each place of the string, the states to which the letters ahead of it lead from any state."""
    rows = [tuple(range(many))]
    for letter in string:
        row = tuple(led_on(leads, rows[-1], letter))
        rows.append(row)
    return rows


def sets_behind(leads, many, string):
    """List, for each place of the string, the states from which the letters behind it lead to any state."""
    rows = [tuple(range(many))]
    for letter in string[::-1]:
        row = tuple(led_back(leads, rows[-1], letter))
        rows.append(row)
    return rows[::-1]


def common(row, other):
    """Return the items of the one row that are in the other one, too."""
    return tuple([item for item in row if item in other])


def sets_through(code, string):
    """List, for each place of the string, the states that its runs have there."""
    leads = leading(code)
    many = len(all_states(code))
    ahead = sets_ahead(leads, many, string)
    behind = sets_behind(leads, many, string)
    return [common(row, other) for row, other in zip(ahead, behind)]


def can_stand(code, string):
    """Tell whether the string is observable: whether it has a run."""
    # Without words there is the boundary alone, from which no letter leads: that is right, too.
    rows = sets_ahead(leading(code), len(all_states(code)), string)
    return len(rows[-1]) > 0


def check_place(code, string, place):
    """Raise the error of the first wrong one of the arguments, or if the string is not observable."""
    check_code(code, "code")
    check_string(string, "string")
    check_number(place, 0, len(string), "place")
    if not can_stand(code, string):
        raise NotPossible("observable")
