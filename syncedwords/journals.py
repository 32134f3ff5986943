"""Journals of broadcasts: replayed, and judged with what the listeners know behind each command."""

from syncedwords.broadcast import Broadcast
from syncedwords.codes import check_code, is_integer, is_tuple_of
from syncedwords.commands import are_commands
from syncedwords.errors import BadValue, NotPossible


def replayed(code, journal):
    """Return the broadcast of the code that carried out the commands of the journal."""
    check_code(code, "code")
    if not are_commands(code, journal):
        raise BadValue("journal")
    broadcast = Broadcast(code)
    for command in journal:
        broadcast.act(command)
    return broadcast


def are_right(code, records):
    """Tell whether the records are right for the code."""
    check_code(code, "code")
    if not isinstance(records, tuple) or not all([is_tuple_of(record, 2) for record in records]):
        return False
    journal = tuple([command for command, _ in records])
    if not are_commands(code, journal):
        return False
    try:
        broadcast = replayed(code, journal)
    except NotPossible:
        return False
    if broadcast.records() != records:
        return False
    # Python takes True for 1, so that what is equal need not be integers.
    return all([is_integer(place) for _, told in records for places in told for place in places])
