"""Points 123 to 125: broadcasts that are replayed, and records that are judged."""

import random
import unittest

from syncedwords.broadcast import Broadcast
from syncedwords.errors import NotPossible
from syncedwords.journals import are_right, replayed
from tests.oracle import CodeCase
from tests.plays import CODES, Played, chosen_plays, commands_for, listed_known, told_of

LATE = ("a", "ab")
OTHER_KINDS = (
    None, True, False, 0, 1, "", "join", [], {}, b"", object(), range(0), (None,), ((),), ("",), (("join",),), ((("join",),),), ((("join",), ((),), ()),), (True,), (0,),
    ((None, None),), (("join", ()),), ((("join",), None),), ((("join",), 0),), ((("join",), ""),), ((("join",), ("",)),), ((("join",), (0,)),), ([("join",), ((),)],),
)


def records_of(code, journal):
    """The records of a journal, with what is known from a listing of runs."""
    played = Played(code)
    records = []
    for command in journal:
        played.play(command)
        records.append((command, tuple(listed_known(code, string) for string in played.heard)))
    return tuple(records)


def is_listed_right(code, records):
    """What is right, by the words of point 124."""
    if type(records) is not tuple or len(records) > 20:
        return False
    played = Played(code)
    for record in records:
        if type(record) is not tuple or len(record) != 2:
            return False
        command, told = record
        if command not in commands_for(code) or type(command) is not tuple or any(type(item) not in (int, str) for item in command):
            return False
        if played.why(command) is not None:
            return False
        played.play(command)
        known = tuple(listed_known(code, string) for string in played.heard)
        if told != known or type(told) is not tuple or any(type(row) is not tuple or any(type(place) is not int for place in row) for row in told):
            return False
    return True


class Replayed(CodeCase):
    """Points 123 and 127."""

    def test_it_tells_what_its_origin_tells(self):
        for code, journal in chosen_plays(100, 360):
            broadcast = Broadcast(code)
            for command in journal:
                broadcast.act(command)
            again = replayed(code, journal)
            self.assertIs(type(again), Broadcast)
            self.assertEqual(told_of(again), told_of(broadcast))
            self.assertEqual(told_of(replayed(code, broadcast.journal())), told_of(broadcast))

    def test_each_beginning_of_a_journal(self):
        for code, journal in chosen_plays(40, 361):
            broadcast = replayed(code, journal)
            for many in range(len(journal), -1, -1):
                self.assertEqual(told_of(replayed(code, journal[:many])), told_of(broadcast))
                broadcast.undo()

    def test_an_empty_journal(self):
        for code in CODES:
            self.assertEqual(told_of(replayed(code, ())), told_of(Broadcast(code)))

    def test_a_command_that_is_not_possible_at_its_place(self):
        for code, journal in chosen_plays(40, 362):
            for many in range(len(journal)):
                played = Played(code, journal[:many])
                for command in commands_for(code):
                    why = played.why(command)
                    if why is not None:
                        self.assert_error(NotPossible, "why", why, replayed, code, journal[:many] + (command,))
                        self.assert_error(NotPossible, "why", why, replayed, code, (journal[:many] + (command,) + journal[many:])[:20])

    def test_the_first_one_is_told(self):
        self.assert_error(NotPossible, "why", "idle", replayed, LATE, (("step",), ("leave", 0)))
        self.assert_error(NotPossible, "why", "missing", replayed, LATE, (("leave", 0), ("step",)))
        self.assert_error(NotPossible, "why", "busy", replayed, LATE, (("send", 1), ("send", 1), ("leave", 0)))
        self.assert_error(NotPossible, "why", "many", replayed, LATE, (("join",),) * 7 + (("step",),))

    def test_20_commands(self):
        journal = (("join",),) * 6 + (("send", 1), ("step",)) * 7
        broadcast = replayed(LATE, journal)
        self.assert_same(broadcast.journal(), journal)
        self.assert_same(broadcast.sent(), "ab" * 7)
        self.assert_same(broadcast.knows(5), tuple(range(0, 15, 2)))

    def test_what_is_done_to_one_does_not_change_another(self):
        journal = (("join",), ("send", 0))
        first, second = replayed(LATE, journal), replayed(LATE, journal)
        first.act(("join",))
        self.assert_same(second.journal(), journal)
        second.undo()
        self.assert_same(first.journal(), journal + (("join",),))


class Right(CodeCase):
    """Points 124 and 125."""

    def assert_judged(self, code, records):
        expected = is_listed_right(code, records)
        with self.subTest(code=code, records=records):
            self.assert_same(are_right(code, records), expected)
        return expected

    def test_the_records_of_a_broadcast(self):
        for code, journal in chosen_plays(120, 370):
            records = replayed(code, journal).records()
            self.assert_same(records, records_of(code, journal))
            self.assertTrue(self.assert_judged(code, records))
            for many in range(len(records)):
                self.assertTrue(self.assert_judged(code, records[:many]))

    def test_no_records(self):
        for code in CODES:
            self.assert_same(are_right(code, ()), True)

    def changed(self, code, records):
        """The records with something else at each place, with one left out, put in, or exchanged with the next one."""
        rows = []
        for at, (command, told) in enumerate(records):
            ahead, behind = records[:at], records[at + 1:]
            rows += [ahead + behind, ahead + (records[at],) + records[at:], ahead + behind[:1] + (records[at],) + behind[1:]]
            others = [told + ((),), told + told, told[:-1], told[::-1], told + ((0,),), (), ((),), ((0,),)]
            for number, places in enumerate(told):
                for other in (places + (len(places),), places[:-1], places[1:], places[::-1], places + places, (0,), (1,), (), places + (99,), (-1,) + places):
                    others.append(told[:number] + (other,) + told[number + 1:])
            rows += [ahead + ((command, other),) + behind for other in others]
            rows += [ahead + ((other, told),) + behind for other in commands_for(code)]
            rows += [ahead + ((other, told),) + records[at:] for other in commands_for(code)]
        return rows

    def test_changed_at_each_place(self):
        right, wrong = 0, 0
        for code, journal in chosen_plays(12, 371):
            for records in self.changed(code, records_of(code, journal[:10])):
                if self.assert_judged(code, records):
                    right += 1
                else:
                    wrong += 1
        self.assertGreater(right, 50)
        self.assertGreater(wrong, 1000)

    def forms(self, records):
        """The records with other kinds of values in place of each of theirs."""
        rows = [list(records), records + (None,), records + ((),), (records,), dict(enumerate(records))]
        for at, (command, told) in enumerate(records):
            others = [list(records[at]), (command,), (command, told, ()), (told, command), command, told, None, True, 0, "", (command, list(told)), (list(command), told)]
            others += [(other, told) for other in (None, True, 0, "join", "step", (), ("Join",), (b"join",), ("send",), ("send", True), ("send", False), ("send", "0"))]
            others += [(other, told) for other in (("leave",), ("leave", True), ("leave", False), ("leave", 6), ("leave", -1), ("join", 0), ("step", 0), (command,), command + (0,))]
            others += [(command, other) for other in (None, True, 0, "", b"", told + (None,), told + (0,), told + ("",), told + ([],), (told,), dict(enumerate(told)))]
            for number, places in enumerate(told):
                for other in (list(places), None, 0, True, "", places + (None,), places + ("1",), (places,), tuple(map(bool, places)) if places else [], tuple(map(float, places)) if places else {}):
                    others.append((command, told[:number] + (other,) + told[number + 1:]))
            rows += [records[:at] + (other,) + records[at + 1:] for other in others]
        return rows

    def test_other_kinds_at_each_place(self):
        for code, journal in ((LATE, (("join",), ("send", 1), ("join",), ("step",), ("send", 0), ("leave", 0))), (("a", "b"), (("join",), ("send", 1), ("leave", 0))), ((), (("join",),))):
            records = records_of(code, journal)
            self.assertTrue(self.assert_judged(code, records))
            for other in self.forms(records):
                self.assertFalse(self.assert_judged(code, other))

    def test_true_in_place_of_a_number(self):
        self.assert_same(are_right(("a",), ((("join",), ((0,),)), (("send", 0), ((0, 1),)))), True)
        self.assert_same(are_right(("a",), ((("join",), ((False,),)), (("send", 0), ((0, 1),)))), False)
        self.assert_same(are_right(("a",), ((("join",), ((0,),)), (("send", 0), ((0, True),)))), False)
        self.assert_same(are_right(("a",), ((("join",), ((0,),)), (("send", False), ((0, 1),)))), False)
        self.assert_same(are_right(("a",), ((("join",), ((0,),)), (("leave", False), ()))), False)
        self.assert_same(are_right(("a",), ((("join",), ((0,),)), (("leave", 0), ()))), True)

    def test_values_of_all_other_kinds(self):
        for code in ((), ("a",), LATE):
            for value in OTHER_KINDS:
                self.assert_same(are_right(code, value), False)

    def test_lists_in_place_of_tuples(self):
        self.assert_same(are_right(LATE, ((("join",), ((),)), (("send", 0), ((0,),)))), True)
        for value in (
            [(("join",), ((),)), (("send", 0), ((0,),))], ([("join",), ((),)], (("send", 0), ((0,),))), ((["join"], ((),)), (("send", 0), ((0,),))),
            ((("join",), [()]), (("send", 0), ((0,),))), ((("join",), ([],)), (("send", 0), ((0,),))), ((("join",), ((),)), (["send", 0], ((0,),))),
            ((("join",), ((),)), (("send", 0), ([0],))), ((("join",), ((),)), (("send", 0), [(0,)])),
        ):
            self.assert_same(are_right(LATE, value), False)

    def test_20_and_21_records(self):
        records = records_of(("a",), (("join",),) * 2 + (("send", 0),) * 19)
        self.assert_same(are_right(("a",), records), False)
        for many in (0, 1, 19, 20):
            self.assert_same(are_right(("a",), records[:many]), True)
        records = records_of(LATE, (("join",), ("leave", 0)) * 11)
        self.assert_same(are_right(LATE, records[:20]), True)
        self.assert_same(are_right(LATE, records[:21]), False)
        self.assert_same(are_right(LATE, records), False)

    def test_records_for_another_code(self):
        plays = [(code, records_of(code, journal)) for code, journal in chosen_plays(10, 372)]
        for code, records in plays:
            for other, _ in plays:
                self.assert_judged(other, records)
        records = records_of(("a", "ab"), (("join",), ("send", 1), ("step",)))
        self.assert_same(are_right(("a", "ab"), records), True)
        self.assert_same(are_right(("b", "ba"), records), True)
        for code in (("a",), (), ("ab", "ba"), ("a", "abb"), ("a", "b")):
            self.assert_same(are_right(code, records), False)

    def test_a_command_that_is_not_possible(self):
        for code, journal in chosen_plays(15, 373):
            records = records_of(code, journal[:8])
            played = Played(code)
            for at, (command, told) in enumerate(records):
                for other in commands_for(code):
                    if played.why(other) is not None:
                        self.assert_same(are_right(code, records[:at] + ((other, told),)), False)
                        self.assert_same(are_right(code, records[:at] + ((other, records[at - 1][1] if at else ()),)), False)
                played.play(command)

    def test_no_others_with_these_commands(self):
        numbers = random.Random(374)
        for code, journal in chosen_plays(60, 375):
            records = records_of(code, journal)
            if records:
                at = numbers.randrange(len(records))
                command, told = records[at]
                for other in (told + ((),), told[1:], told[:-1] + ((77,),), tuple(places + (77,) for places in told) or ((0,),)):
                    expected = other == told
                    self.assert_same(are_right(code, records[:at] + ((command, other),) + records[at + 1:]), expected)

    def test_the_example_of_the_interface(self):
        self.assert_same(are_right(("a", "ab"), ((("join",), ((),)), (("send", 0), ((0,),)))), True)


if __name__ == "__main__":
    unittest.main()
