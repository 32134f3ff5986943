"""Journals of broadcasts: replayed, and judged with what the listeners know behind each command."""

from syncedwords.broadcast import Broadcast
from syncedwords.codes import check_code, is_integer, is_tuple_of
from syncedwords.commands import MOST_COMMANDS, are_commands
from syncedwords.errors import BadValue, NotPossible


def replayed(code, journal):
    """Return the broadcast of the code that carried out the commands of the journal."""
    check_code(code, "code")
    if not are_commands(code, journal):
        raise BadValue("journal")
    broadcast = Broadcast(code)
    for command in journal:
        broadcast.act(command)
    return broadcast


def is_told(value):
    """Tell whether the value is a tuple of tuples of integers."""
    if not isinstance(value, tuple) or not all([isinstance(places, tuple) for places in value]):
        return False
    return all([is_integer(place) for places in value for place in places])


def is_record(value):
    """Tell whether the value is a pair of which the second item can be what listeners know."""
    return is_tuple_of(value, 2) and is_told(value[1])


def are_right(code, records):
    """Tell whether the records are right for the code."""
    check_code(code, "code")
    if not isinstance(records, tuple) or len(records) > MOST_COMMANDS:
        return False
    if not all([is_record(record) for record in records]):
        return False
    journal = tuple([command for command, _ in records])
    if not are_commands(code, journal):
        return False
    try:
        broadcast = replayed(code, journal)
    except NotPossible:
        return False
    return broadcast.records() == records
