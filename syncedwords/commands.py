"""The commands of broadcasts: which there are, which are possible, and what they do."""

from syncedwords.codes import is_number, is_tuple_of

MOST_LISTENERS = 6
MOST_COMMANDS = 20

# Where a broadcast is: what was sent, the word and how many of its letters were sent or None at a boundary, and
# how many letters were sent when each listener joined.
BEGINNING = ("", None, ())


def is_command(code, value):
    """Tell whether the value is a command for the code."""
    if is_tuple_of(value, 1):
        return value[0] in ("step", "join")
    if not is_tuple_of(value, 2):
        return False
    if value[0] == "send":
        return is_number(value[1], 0, len(code) - 1)
    return value[0] == "leave" and is_number(value[1], 0, MOST_LISTENERS - 1)


def are_commands(code, value):
    """Tell whether the value is a tuple of at most 20 commands for the code."""
    if not isinstance(value, tuple) or len(value) > MOST_COMMANDS:
        return False
    return all([is_command(code, command) for command in value])


def hindrance(where, command):
    """Return the word for why the command is not possible, or None if it is."""
    _, inside, joined = where
    if command[0] == "send":
        return None if inside is None else "busy"
    if command[0] == "step":
        return None if inside is not None else "idle"
    if command[0] == "join":
        return None if len(joined) < MOST_LISTENERS else "many"
    return None if command[1] < len(joined) else "missing"


def with_letter(code, where, number, letters):
    """Return where the broadcast is behind the letter of the word ahead of which so many of its letters were sent."""
    sent, _, joined = where
    word = code[number]
    inside = (number, letters + 1) if letters + 1 < len(word) else None
    return sent + word[letters], inside, joined


def carried_out(code, where, command):
    """Return where the broadcast is behind the command, which is possible."""
    sent, inside, joined = where
    if command[0] == "send":
        return with_letter(code, where, command[1], 0)
    if command[0] == "step":
        return with_letter(code, where, inside[0], inside[1])
    if command[0] == "join":
        return sent, inside, joined + (len(sent),)
    return sent, inside, joined[:command[1]] + joined[command[1] + 1:]
