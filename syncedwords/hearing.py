"""Evidence that a place of a string is a known boundary, or that it is not."""

from syncedwords.codes import is_ascending, is_number, is_tuple_of
from syncedwords.runs import check_place, common, sets_ahead, sets_behind
from syncedwords.steps import all_states, leading, led_back, led_on


def run_ahead(leads, ahead, string, place, state):
    """List the states, one for each place ahead, of a way by the letters of the string to the state at the place."""
    run = [state]
    for at in range(place - 1, -1, -1):
        before = [other for other in ahead[at] if run[0] in leads[string[at]][other]]
        run = [before[0]] + run
    return run[:-1]


def run_behind(leads, behind, string, place, state):
    """List the states, one for each place from this one on, of a way by the letters from the state to the end."""
    run = [state]
    for at in range(place, len(string)):
        further = common(leads[string[at]][run[-1]], behind[at + 1])
        run.append(further[0])
    return run


def place_evidence(code, string, place):
    """Return evidence that the place is a known boundary, or that it is not."""
    check_place(code, string, place)
    leads = leading(code)
    many = len(all_states(code))
    ahead = sets_ahead(leads, many, string)
    behind = sets_behind(leads, many, string)
    inside = [state for state in common(ahead[place], behind[place]) if state != 0]
    if len(inside) == 0:
        return "known", tuple(ahead[:place + 1]), tuple(behind[place:])
    run = run_ahead(leads, ahead, string, place, inside[0]) + run_behind(leads, behind, string, place, inside[0])
    return "open", tuple(run)


def are_sets(value, sets, many):
    """Tell whether the value is a tuple of so many sets of states, which are below the number."""
    if not is_tuple_of(value, sets) or not all([isinstance(states, tuple) for states in value]):
        return False
    if not all([is_number(state, 0, many - 1) for states in value for state in states]):
        return False
    return all([is_ascending(states) for states in value])


def has_all(states, needed):
    """Tell whether all needed states are among the states."""
    return all([state in states for state in needed])


def are_right_ahead(leads, many, string, sets):
    """Tell whether the sets, from the first place on, have all states to which the letters lead."""
    if not has_all(sets[0], list(range(many))):
        return False
    steps = list(zip(string, sets, sets[1:]))
    return all([has_all(states, led_on(leads, before, letter)) for letter, before, states in steps])


def are_right_behind(leads, many, string, sets):
    """Tell whether the sets, up to the last place, have all states from which the letters lead on."""
    if not has_all(sets[-1], list(range(many))):
        return False
    steps = list(zip(string, sets, sets[1:]))
    return all([has_all(states, led_back(leads, behind, letter)) for letter, states, behind in steps])


def accepts_known(code, string, place, ahead, behind):
    """Tell whether the sets show that the place is a known boundary."""
    leads = leading(code)
    many = len(all_states(code))
    if not are_sets(ahead, place + 1, many) or not are_sets(behind, len(string) - place + 1, many):
        return False
    if not are_right_ahead(leads, many, string[:place], ahead):
        return False
    if not are_right_behind(leads, many, string[place:], behind):
        return False
    return has_all((0,), common(ahead[-1], behind[0]))


def accepts_open(code, string, place, run):
    """Tell whether the value is a run of the string with another state than that of the boundary at the place."""
    leads = leading(code)
    many = len(all_states(code))
    if not is_tuple_of(run, len(string) + 1) or not all([is_number(state, 0, many - 1) for state in run]):
        return False
    steps = list(zip(string, run, run[1:]))
    return run[place] != 0 and all([further in leads[letter][state] for letter, state, further in steps])


def accepts_place(code, string, place, value):
    """Tell whether the value is accepted evidence about the place, of either word."""
    check_place(code, string, place)
    if is_tuple_of(value, 3) and value[0] == "known":
        return accepts_known(code, string, place, value[1], value[2])
    if is_tuple_of(value, 2) and value[0] == "open":
        return accepts_open(code, string, place, value[1])
    return False
