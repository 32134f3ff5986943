"""Points 8 and 128: wrong arguments of broadcasts and journals, commands that are not possible, and full journals."""

import unittest

from syncedwords.broadcast import Broadcast
from syncedwords.errors import BadValue, NotPossible, TooLarge
from syncedwords.journals import are_right, replayed
from tests.oracle import CodeCase
from tests.plays import CODES, Played, chosen_plays, commands_for, told_of
from tests.wrong import WRONG_CODES, WrongCalls

CODE = ("a", "ab")
WRONG_COMMANDS = (
    None, True, False, 0, 1, "", "step", "join", "send", (), [], {}, b"step", ["step"], ["send", 0], {"step"}, {"send": 0}, ("Step",), ("stop",), ("",), (None,), (0,), (True,),
    (b"join",), (("join",),), (["join"],), ("send",), ("leave",), ("step", 0), ("join", 0), ("step", None), ("join", ()), ("send", 2), ("send", 3), ("send", -1), ("send", 2 ** 70),
    ("send", True), ("send", False), ("send", None), ("send", "0"), ("send", 0.0), ("send", (0,)), ("send", [0]), ("send", 0, 0), ("send", 0, None), (0, "send"), ("send", "a"),
    ("leave", -1), ("leave", 6), ("leave", 7), ("leave", 2 ** 70), ("leave", True), ("leave", False), ("leave", None), ("leave", "0"), ("leave", 0.0), ("leave", (0,)),
    ("leave", [0]), ("leave", 0, 0), ("undo",), ("SEND", 0), ("send ", 0), (" join",), ("join\n",), ("heard", 0),
)
WRONG_NUMBERS = (None, True, False, -1, 6, 7, 100, 2 ** 70, "0", "", 0.0, 1.0, (0,), [0], b"a", (), {})
WRONG_JOURNALS = (
    None, True, False, 0, 1, "", "step", [], [("join",)], {("join",)}, {0: ("join",)}, b"", ("join",), ("send", 0), ("step",), (("join",),) * 21, (("step",),) * 21,
    (("join",), ("leave", 0)) * 11, (("send", 0),) * 1000, range(2), (None,), ((),), ("",), (0,), (("join",), None), (("join",), ["join"]), (("join",), ("step", 0)),
) + tuple((command,) for command in WRONG_COMMANDS) + tuple((("join",), command, ("join",)) for command in WRONG_COMMANDS)
FULL = (("join",), ("send", 1), ("step",), ("leave", 0)) * 4 + (("join",),) * 4


def act_on(command):
    return replayed(CODE, (("join",),)).act(command)


def heard_by(number):
    return replayed(CODE, (("join",),) * 6).heard(number)


def known_by(number):
    return replayed(CODE, (("join",),) * 6).knows(number)


class WrongArguments(WrongCalls, CodeCase):
    CALLS = (
        (Broadcast, (CODE,), (("code", WRONG_CODES),)),
        (act_on, (("send", 1),), (("command", WRONG_COMMANDS),)),
        (heard_by, (5,), (("number", WRONG_NUMBERS),)),
        (known_by, (5,), (("number", WRONG_NUMBERS),)),
        (replayed, (CODE, (("join",), ("send", 1), ("step",))), (("code", WRONG_CODES), ("journal", WRONG_JOURNALS))),
        (are_right, (CODE, None), (("code", WRONG_CODES),)),
    )

    def test_records_do_not_matter(self):
        for records in (None, True, [], (), ((("join",), ((),)),), object(), [(("join",), ((),))]):
            for code in WRONG_CODES:
                self.assert_error(BadValue, "name", "code", are_right, code, records)

    def test_every_value_is_valid_as_records(self):
        for value in WRONG_JOURNALS + WRONG_COMMANDS + WRONG_NUMBERS + WRONG_CODES:
            if value != ():
                self.assert_same(are_right(CODE, value), False)


class Commands(CodeCase):
    """Point 128: what is no command for the code."""

    def test_numbers_of_words(self):
        for code in CODES:
            for number in range(-1, 8):
                command = ("send", number)
                if 0 <= number < len(code):
                    self.assert_same(Broadcast(code).act(command), 1)
                    replayed(code, (command,))
                else:
                    self.assert_error(BadValue, "name", "command", Broadcast(code).act, command)
                    self.assert_error(BadValue, "name", "journal", replayed, code, (command,))
            for number in (True, False):
                self.assert_error(BadValue, "name", "command", Broadcast(code).act, ("send", number))

    def test_numbers_of_listeners(self):
        for number in range(6):
            self.assert_error(NotPossible, "why", "missing", Broadcast(CODE).act, ("leave", number))
            self.assert_same(replayed(CODE, (("join",),) * 6).act(("leave", number)), 7)
        for number in (-1, 6, 7, True, False):
            self.assert_error(BadValue, "name", "command", Broadcast(CODE).act, ("leave", number))
            self.assert_error(BadValue, "name", "command", replayed(CODE, (("join",),) * 6).act, ("leave", number))

    def test_a_wrong_command_comes_first(self):
        """At places where some command is not possible, and with a full journal."""
        for journal in ((), (("send", 1),), (("join",),) * 6, FULL):
            broadcast = replayed(CODE, journal)
            kept = told_of(broadcast)
            for command in WRONG_COMMANDS:
                self.assert_error(BadValue, "name", "command", broadcast.act, command)
            self.assertEqual(told_of(broadcast), kept)

    def test_a_wrong_command_in_a_journal_comes_before_one_that_is_not_possible(self):
        for command in WRONG_COMMANDS:
            self.assert_error(BadValue, "name", "journal", replayed, CODE, (("step",), command))
            self.assert_error(BadValue, "name", "journal", replayed, CODE, (("leave", 3), ("join",), command))
        self.assert_error(BadValue, "name", "journal", replayed, CODE, [("step",)])
        self.assert_error(BadValue, "name", "journal", replayed, CODE, (("step",),) * 21)


class NotPossibleOnes(CodeCase):
    def test_nothing_changes(self):
        for code, journal in chosen_plays(40, 380):
            for many in range(0, len(journal) + 1, 3):
                broadcast, played = replayed(code, journal[:many]), Played(code, journal[:many])
                kept = told_of(broadcast)
                for command in commands_for(code):
                    why = played.why(command)
                    if why is not None:
                        self.assert_error(NotPossible, "why", why, broadcast.act, command)
                        self.assertEqual(told_of(broadcast), kept)


class FullJournals(CodeCase):
    """Point 128: 20 commands in the journal, and commands that are possible, and such that are not."""

    def test_the_20th_command(self):
        for code, journal in chosen_plays(30, 381):
            broadcast = Broadcast(code)
            for many, command in enumerate(journal, start=1):
                self.assert_same(broadcast.act(command), many)

    def test_the_21st_command(self):
        self.assertEqual(len(FULL), 20)
        for code, journal in ((CODE, FULL), (CODE, FULL[:19] + (("send", 1),)), (("a",), (("send", 0),) * 20), (CODE, (("join",),) * 6 + (("send", 0),) * 14), ((), (("join",), ("leave", 0)) * 10)):
            broadcast, played = replayed(code, journal), Played(code, journal)
            kept = told_of(broadcast)
            for command in commands_for(code):
                why = played.why(command)
                if why is None:
                    self.assert_error(TooLarge, "what", "commands", broadcast.act, command)
                else:
                    self.assert_error(NotPossible, "why", why, broadcast.act, command)
                self.assertEqual(told_of(broadcast), kept)
            twin = broadcast.twin()
            self.assertEqual(told_of(twin), kept)
            self.assert_same(broadcast.undo(), journal[-1])
            self.assert_same(broadcast.act(journal[-1]), 20)
            self.assertEqual(told_of(broadcast), kept)


class Listeners(CodeCase):
    """Point 128: heard and knows."""

    def test_a_listener_that_is_not_there(self):
        for many in range(7):
            broadcast = replayed(CODE, (("send", 0),) + (("join",),) * many + (("send", 1),))
            kept = told_of(broadcast)
            for number in range(6):
                for function in (broadcast.heard, broadcast.knows):
                    if number < many:
                        function(number)
                    else:
                        self.assert_error(NotPossible, "why", "missing", function, number)
            for number in WRONG_NUMBERS:
                for function in (broadcast.heard, broadcast.knows):
                    self.assert_error(BadValue, "name", "number", function, number)
            self.assertEqual(told_of(broadcast), kept)


if __name__ == "__main__":
    unittest.main()
