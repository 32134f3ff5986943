"""Broadcasts: words that are sent letter by letter, and what the listeners know who join and leave."""

from syncedwords.codes import check_code, check_number
from syncedwords.commands import BEGINNING, MOST_COMMANDS, MOST_LISTENERS, carried_out, hindrance, is_command
from syncedwords.errors import BadValue, NotPossible, TooLarge
from syncedwords.listeners import known_boundaries


def known_to_all(code, where):
    """Return what each listener knows, one behind another, where the broadcast is."""
    sent, _, begun = where
    return tuple([known_boundaries(code, sent[place:]) for place in begun])


class Broadcast:
    """A broadcast of a code, with its journal."""

    def __init__(self, code):
        check_code(code, "code")
        self.code = code
        self.commands = []
        # Where it was ahead of all commands, and then behind each of them: what undoing goes back to.
        self.course = [BEGINNING]

    def act(self, command):
        """Carry out the command, and return the number of the commands in the journal."""
        if not is_command(self.code, command):
            raise BadValue("command")
        why = hindrance(self.course[-1], command)
        if why is not None:
            raise NotPossible(why)
        if len(self.commands) == MOST_COMMANDS:
            raise TooLarge("commands")
        self.course.append(carried_out(self.code, self.course[-1], command))
        self.commands.append(command)
        return len(self.commands)

    def undo(self):
        """Undo the last command, and return it, or None if there is none."""
        if len(self.commands) == 0:
            return None
        self.course.pop()
        return self.commands.pop()

    def sent(self):
        """Return what was sent."""
        return self.course[-1][0]

    def inside(self):
        """Return the number of the word and how many of its letters were sent, or None at a boundary."""
        return self.course[-1][1]

    def joined(self):
        """Return how many letters were sent when each listener joined."""
        return self.course[-1][2]

    def journal(self):
        """Return the commands in the journal."""
        return tuple(self.commands)

    def heard(self, number):
        """Return what the listener heard."""
        check_number(number, 0, MOST_LISTENERS - 1, "number")
        begun = self.joined()
        if number >= len(begun):
            raise NotPossible("missing")
        return self.sent()[begun[number]:]

    def knows(self, number):
        """Return the boundaries that the listener knows."""
        return known_boundaries(self.code, self.heard(number))

    def records(self):
        """Return each command of the journal with what all listeners know behind it."""
        rows = list(zip(self.commands, self.course[1:]))
        return tuple([(command, known_to_all(self.code, where)) for command, where in rows])

    def twin(self):
        """Return a broadcast with the same code and journal."""
        other = Broadcast(self.code)
        for command in self.journal():
            other.act(command)
        return other
