"""Steps from one string to another, and the least number of errors among them."""

from syncedwords.codes import check_string, has_letters
from syncedwords.errors import BadValue

MOST_STEPS = 100
WITHOUT_LETTER = ("keep", "drop")
WITH_LETTER = ("change", "put")


def is_step(value):
    """Tell whether the value is a step."""
    if not isinstance(value, tuple) or len(value) not in (1, 2):
        return False
    if len(value) == 1:
        return value[0] in WITHOUT_LETTER
    return value[0] in WITH_LETTER and has_letters(value[1], 1, 1)


def are_steps(value):
    """Tell whether the value is a tuple of at most 100 steps."""
    if not isinstance(value, tuple) or len(value) > MOST_STEPS:
        return False
    return all([is_step(step) for step in value])


def follow(string, steps):
    """Return the string to which the steps lead, or None if they lead to nothing."""
    found = ""
    place = 0
    for step in steps:
        if step[0] in WITH_LETTER:
            found += step[1]
        if step[0] == "put":
            continue
        if place == len(string):
            return None
        if step[0] == "keep":
            found += string[place]
        place += 1
    return found if place == len(string) else None


def led(string, steps):
    """Return the string to which the steps lead, or None if they lead to nothing."""
    check_string(string, "string")
    if not are_steps(steps):
        raise BadValue("steps")
    return follow(string, steps)


def count_errors(steps):
    """Return how many of the steps are errors."""
    return len([step for step in steps if step != ("keep",)])


def distances(first, second):
    """List rows with, for each place of the first string and of the second one, the distance of what stands behind."""
    rows = [list(reversed(range(len(second) + 1)))]
    for letter in reversed(first):
        below = rows[0]
        row = [below[-1] + 1]
        for place in reversed(range(len(second))):
            changed = below[place + 1] + (0 if letter == second[place] else 1)
            row = [min(changed, below[place] + 1, row[0] + 1)] + row
        rows = [row] + rows
    return rows


def steps_between(first, second):
    """Return steps from the first string to the second one with the least number of errors."""
    rows = distances(first, second)
    steps = []
    here, there = 0, 0
    while here < len(first) or there < len(second):
        left = rows[here][there]
        if here < len(first) and rows[here + 1][there] < left:
            steps.append(("drop",))
            here += 1
        elif there < len(second) and rows[here][there + 1] < left:
            steps.append(("put", second[there]))
            there += 1
        else:
            # Then neither of the strings is at its end, and both go on by a letter.
            steps.append(("keep",) if first[here] == second[there] else ("change", second[there]))
            here += 1
            there += 1
    return tuple(steps)


def distance(first, second):
    """Return the distance of the strings."""
    check_string(first, "first")
    check_string(second, "second")
    return distances(first, second)[0][0]
