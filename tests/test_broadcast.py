"""Points 118 to 123, 126, 127 and 129: commands, what listeners heard and know, undoing and twins."""

import itertools
import random
import unittest

from syncedwords.broadcast import Broadcast
from syncedwords.correction import first_error
from syncedwords.errors import NotPossible
from syncedwords.parses import is_message
from syncedwords.sync import delay, is_synced
from tests.families import chosen_codes, small_codes
from tests.oracle import CodeCase
from tests.plays import CODES, Played, chosen_journal, chosen_plays, commands_for, listed_known, told_of

LATE = ("a", "ab")


class BroadcastCase(CodeCase):
    def broadcast(self, code, journal):
        broadcast = Broadcast(code)
        for command in journal:
            broadcast.act(command)
        return broadcast

    def assert_played(self, broadcast, played, journal):
        """Compare all that the broadcast tells, but for what is known."""
        self.assert_same(broadcast.sent(), played.letters)
        self.assert_same(broadcast.inside(), played.inside())
        self.assert_same(broadcast.joined(), tuple(played.begun))
        self.assert_same(broadcast.journal(), tuple(journal))
        for number, string in enumerate(played.heard):
            self.assert_same(broadcast.heard(number), string)
        for number in range(len(played.heard), 6):
            self.assert_error(NotPossible, "why", "missing", broadcast.heard, number)
            self.assert_error(NotPossible, "why", "missing", broadcast.knows, number)


class Commands(BroadcastCase):
    """Points 118 and 119."""

    def test_a_new_broadcast(self):
        for code in CODES:
            broadcast = Broadcast(code)
            self.assert_played(broadcast, Played(code), [])
            self.assert_same(broadcast.records(), ())
            self.assert_same(broadcast.undo(), None)

    def test_all_short_journals(self):
        for code, most in ((("a", "ab"), 4), (("abc",), 5), ((), 4)):
            commands = commands_for(code)[:len(code) + 4]
            for many in range(1, most + 1):
                for row in itertools.product(commands, repeat=many):
                    self.assert_row(code, row)

    def assert_row(self, code, row):
        broadcast, played, journal = Broadcast(code), Played(code), []
        for command in row:
            why = played.why(command)
            if why is None:
                played.play(command)
                journal.append(command)
                self.assert_same(broadcast.act(command), len(journal))
            else:
                self.assert_error(NotPossible, "why", why, broadcast.act, command)
        self.assert_played(broadcast, played, journal)

    def test_each_command_at_each_place(self):
        """Behind each command of some journals, each command that is possible, and each one that is not."""
        for code, journal in chosen_plays(40, 310):
            broadcast, played = Broadcast(code), Played(code)
            for many, command in enumerate(journal):
                for other in commands_for(code):
                    why = played.why(other)
                    if why is None:
                        self.assert_same(broadcast.act(other), many + 1)
                        self.assert_played(broadcast, Played(code, journal[:many] + (other,)), journal[:many] + (other,))
                        self.assert_same(broadcast.undo(), other)
                    else:
                        self.assert_error(NotPossible, "why", why, broadcast.act, other)
                    self.assert_played(broadcast, played, journal[:many])
                broadcast.act(command)
                played.play(command)

    def test_inside_a_word_and_at_a_boundary(self):
        broadcast = Broadcast(("abc", "b"))
        self.assert_error(NotPossible, "why", "idle", broadcast.act, ("step",))
        told = []
        for command in (("send", 0), ("step",), ("step",), ("send", 1), ("send", 0)):
            if broadcast.inside() is None:
                self.assert_error(NotPossible, "why", "idle", broadcast.act, ("step",))
            else:
                self.assert_error(NotPossible, "why", "busy", broadcast.act, ("send", 1))
            broadcast.act(command)
            told.append((broadcast.sent(), broadcast.inside()))
        self.assert_same(told, [("a", (0, 1)), ("ab", (0, 2)), ("abc", None), ("abcb", None), ("abcba", (0, 1))])

    def test_words_of_one_letter(self):
        broadcast = Broadcast(("a", "b", "c"))
        for number in (2, 0, 1, 1):
            broadcast.act(("send", number))
            self.assert_same(broadcast.inside(), None)
            self.assert_error(NotPossible, "why", "idle", broadcast.act, ("step",))
        self.assert_same(broadcast.sent(), "cabb")

    def test_a_code_without_words(self):
        broadcast = Broadcast(())
        self.assert_error(NotPossible, "why", "idle", broadcast.act, ("step",))
        self.assert_same(broadcast.act(("join",)), 1)
        self.assert_same((broadcast.heard(0), broadcast.knows(0), broadcast.sent(), broadcast.joined()), ("", (0,), "", (0,)))
        self.assert_same(broadcast.act(("leave", 0)), 2)
        self.assert_same(broadcast.records(), ((("join",), ((0,),)), (("leave", 0), ())))

    def test_six_listeners(self):
        broadcast = Broadcast(LATE)
        for many in range(1, 7):
            self.assert_same(broadcast.act(("join",)), many)
        self.assert_error(NotPossible, "why", "many", broadcast.act, ("join",))
        self.assert_same(broadcast.joined(), (0,) * 6)
        broadcast.act(("leave", 5))
        self.assert_error(NotPossible, "why", "missing", broadcast.act, ("leave", 5))
        self.assert_same(broadcast.act(("join",)), 8)
        self.assert_error(NotPossible, "why", "many", broadcast.act, ("join",))

    def test_listeners_are_numbered_anew(self):
        broadcast = self.broadcast(("a", "b", "c"), (("join",), ("send", 0), ("join",), ("send", 1), ("join",), ("send", 2), ("join",)))
        self.assert_same(broadcast.joined(), (0, 1, 2, 3))
        self.assert_same([broadcast.heard(number) for number in range(4)], ["abc", "bc", "c", ""])
        broadcast.act(("leave", 1))
        self.assert_same(broadcast.joined(), (0, 2, 3))
        self.assert_same([broadcast.heard(number) for number in range(3)], ["abc", "c", ""])
        broadcast.act(("leave", 0))
        broadcast.act(("join",))
        self.assert_same(broadcast.joined(), (2, 3, 3))
        broadcast.act(("leave", 2))
        self.assert_same(broadcast.joined(), (2, 3))
        self.assert_error(NotPossible, "why", "missing", broadcast.act, ("leave", 2))
        self.assert_error(NotPossible, "why", "missing", broadcast.heard, 2)

    def test_chosen_journals(self):
        for code, journal in chosen_plays(200, 311):
            broadcast, played = Broadcast(code), Played(code)
            for many, command in enumerate(journal, start=1):
                self.assert_same(broadcast.act(command), many)
                played.play(command)
                self.assert_played(broadcast, played, journal[:many])

    def test_listeners_join_inside_a_word(self):
        broadcast = self.broadcast(("abcab",), (("send", 0), ("step",), ("join",), ("step",), ("join",), ("step",), ("step",), ("join",)))
        self.assert_same(broadcast.joined(), (2, 3, 5))
        self.assert_same([broadcast.heard(number) for number in range(3)], ["cab", "ab", ""])


class Known(BroadcastCase):
    """Points 120, 121 and 122."""

    def test_against_a_listing_of_runs(self):
        for code, journal in chosen_plays(150, 320):
            broadcast, played = Broadcast(code), Played(code)
            for command in journal:
                broadcast.act(command)
                played.play(command)
                for number, string in enumerate(played.heard):
                    with self.subTest(code=code, string=string):
                        self.assert_same(broadcast.knows(number), listed_known(code, string))

    def test_each_known_boundary_is_one(self):
        known = 0
        for code, journal in chosen_plays(200, 321):
            broadcast, played = Broadcast(code), Played(code)
            for command in journal:
                broadcast.act(command)
                played.play(command)
                for number, begun in enumerate(played.begun):
                    places = [begun + place for place in broadcast.knows(number)]
                    self.assertLessEqual(set(places), set(played.boundaries))
                    known += len(places)
        self.assertGreater(known, 500)

    def test_with_a_delay_a_boundary_is_known(self):
        many = 0
        for code, journal in chosen_plays(200, 322) + [(code, chosen_journal(code, 20, random.Random(1))) for code in small_codes()[::2]]:
            if is_synced(code):
                wait = delay(code)
                broadcast = Broadcast(code)
                for command in journal:
                    broadcast.act(command)
                    for number in range(len(broadcast.joined())):
                        if len(broadcast.heard(number)) >= wait:
                            self.assertNotEqual(broadcast.knows(number), ())
                            many += 1
        self.assertGreater(many, 500)

    def test_what_is_known_stays_known(self):
        for code, journal in chosen_plays(150, 323):
            broadcast = Broadcast(code)
            for command in journal:
                before = [broadcast.knows(number) for number in range(len(broadcast.joined()))]
                if command[0] == "leave":
                    del before[command[1]]
                broadcast.act(command)
                for number, places in enumerate(before):
                    self.assertLessEqual(set(places), set(broadcast.knows(number)))

    def test_what_the_later_one_knows_the_earlier_one_knows(self):
        more = 0
        for code, journal in chosen_plays(150, 324):
            broadcast = Broadcast(code)
            for command in journal:
                broadcast.act(command)
                begun = broadcast.joined()
                known = [{begun[number] + place for place in broadcast.knows(number)} for number in range(len(begun))]
                for earlier, later in zip(known, known[1:]):
                    self.assertLessEqual(later, earlier)
                    more += later != earlier
        self.assertGreater(more, 50)

    def test_cases(self):
        broadcast = self.broadcast(("ab", "ba"), (("join",), ("send", 0), ("step",), ("send", 0), ("step",)))
        self.assert_same((broadcast.heard(0), broadcast.knows(0)), ("abab", ()))
        broadcast.act(("send", 1))
        self.assert_same((broadcast.heard(0), broadcast.knows(0)), ("ababb", (0, 2, 4)))
        broadcast = self.broadcast(("a", "b"), (("join",), ("send", 0), ("join",), ("send", 1)))
        self.assert_same((broadcast.knows(0), broadcast.knows(1)), ((0, 1, 2), (0, 1)))


class Undone(BroadcastCase):
    """Point 123."""

    def test_back_to_the_beginning(self):
        for code, journal in chosen_plays(60, 330):
            broadcast = Broadcast(code)
            told = []
            for command in journal:
                told.append(told_of(broadcast))
                broadcast.act(command)
            for command, expected in list(zip(journal, told))[::-1]:
                self.assert_same(broadcast.undo(), command)
                self.assertEqual(told_of(broadcast), expected)
            for _ in range(3):
                self.assert_same(broadcast.undo(), None)
            self.assert_played(broadcast, Played(code), [])

    def test_undone_and_done_again(self):
        numbers = random.Random(331)
        for code, journal in chosen_plays(60, 332):
            broadcast = self.broadcast(code, journal)
            expected = told_of(broadcast)
            many = numbers.randrange(len(journal) + 1)
            for _ in range(many):
                broadcast.undo()
            for command in journal[len(journal) - many:]:
                broadcast.act(command)
            self.assertEqual(told_of(broadcast), expected)

    def test_each_kind_of_command(self):
        broadcast = Broadcast(("abc",))
        for ahead, command in (((), ("send", 0)), ((("send", 0),), ("step",)), ((("send", 0), ("step",)), ("step",)), ((("send", 0),), ("join",)), ((("join",),), ("leave", 0))):
            for other in ahead:
                broadcast.act(other)
            expected = told_of(broadcast)
            broadcast.act(command)
            self.assertNotEqual(told_of(broadcast), expected)
            self.assert_same(broadcast.undo(), command)
            self.assertEqual(told_of(broadcast), expected)
            for other in ahead:
                broadcast.undo()

    def test_a_listener_that_left_comes_back(self):
        broadcast = self.broadcast(("a", "b", "c"), (("join",), ("send", 0), ("join",), ("send", 1), ("join",), ("send", 2)))
        for number in range(3):
            broadcast.act(("leave", number))
            self.assertEqual(len(broadcast.joined()), 2)
            self.assert_same(broadcast.undo(), ("leave", number))
            self.assert_same(broadcast.joined(), (0, 1, 2))
            self.assert_same([broadcast.heard(at) for at in range(3)], ["abc", "bc", "c"])

    def test_an_empty_journal(self):
        broadcast = Broadcast(LATE)
        self.assert_same(broadcast.undo(), None)
        self.assert_same(broadcast.undo(), None)
        self.assert_same(broadcast.act(("join",)), 1)

    def test_a_command_that_was_not_possible_is_not_undone(self):
        broadcast = self.broadcast(LATE, (("join",), ("send", 1)))
        self.assert_error(NotPossible, "why", "busy", broadcast.act, ("send", 0))
        self.assert_same(broadcast.undo(), ("send", 1))

    def test_undoing_makes_room_for_the_20th_command(self):
        broadcast = self.broadcast(LATE, (("send", 0),) * 20)
        self.assert_same(broadcast.undo(), ("send", 0))
        self.assert_same(broadcast.act(("join",)), 20)


class Sent(BroadcastCase):
    """Point 126."""

    def test_the_beginning_of_a_message(self):
        for code, journal in chosen_plays(200, 340):
            broadcast = Broadcast(code)
            for command in journal:
                broadcast.act(command)
                self.assertIsNone(first_error(code, broadcast.sent()))
                if broadcast.inside() is None:
                    self.assertTrue(is_message(code, broadcast.sent()))


class Twins(BroadcastCase):
    """Point 127, and points 2 and 3 of broadcasts."""

    def test_a_twin_tells_the_same(self):
        for code, journal in chosen_plays(80, 350):
            broadcast = self.broadcast(code, journal)
            twin = broadcast.twin()
            self.assertIs(type(twin), Broadcast)
            self.assertIsNot(twin, broadcast)
            self.assertEqual(told_of(twin), told_of(broadcast))
            self.assertEqual(told_of(twin.twin()), told_of(broadcast))

    def test_one_changed_without_the_other(self):
        for code, journal in chosen_plays(60, 351):
            journal = journal[:19]
            broadcast = self.broadcast(code, journal)
            twin = broadcast.twin()
            expected = told_of(broadcast)
            for one, other in ((broadcast, twin), (twin, broadcast)):
                possible = [command for command in commands_for(code) if Played(code, journal).why(command) is None]
                for command in possible:
                    one.act(command)
                    self.assertEqual(told_of(other), expected)
                    self.assertEqual(other.journal(), journal)
                    one.undo()
                for _ in journal:
                    one.undo()
                    self.assertEqual(told_of(other), expected)
                self.assertEqual(one.journal(), ())
                for command in journal:
                    one.act(command)
                self.assertEqual(told_of(one), expected)

    def test_both_changed_differently(self):
        broadcast = self.broadcast(("ab", "ba"), (("join",), ("send", 0)))
        twin = broadcast.twin()
        broadcast.act(("step",))
        twin.act(("leave", 0))
        self.assert_same((broadcast.sent(), broadcast.joined(), broadcast.journal()), ("ab", (0,), (("join",), ("send", 0), ("step",))))
        self.assert_same((twin.sent(), twin.joined(), twin.journal()), ("a", (), (("join",), ("send", 0), ("leave", 0))))

    def test_two_broadcasts_of_one_code(self):
        code = ("a", "ab")
        first, second = Broadcast(code), Broadcast(code)
        first.act(("join",))
        self.assert_same((second.joined(), second.journal(), second.undo()), ((), (), None))

    def test_of_a_full_journal(self):
        broadcast = self.broadcast(LATE, (("join",),) * 6 + (("send", 0),) * 14)
        self.assertEqual(told_of(broadcast.twin()), told_of(broadcast))

    def test_the_values_are_told_anew(self):
        broadcast = self.broadcast(LATE, (("join",), ("send", 1)))
        kept = told_of(broadcast)
        broadcast.act(("step",))
        self.assertEqual(kept["sent"], "a")
        self.assertEqual(kept["inside"], (1, 1))
        self.assertEqual(kept["journal"], (("join",), ("send", 1)))
        self.assertEqual(kept["heard"], ["a"])
        broadcast.undo()
        self.assertEqual(told_of(broadcast), kept)
        for _ in range(3):
            self.assertEqual(told_of(broadcast), kept)

    def test_kinds_of_values(self):
        broadcast = self.broadcast(LATE, (("join",), ("send", 1), ("join",)))
        self.assert_same(broadcast.sent(), "a")
        self.assert_same(broadcast.inside(), (1, 1))
        self.assert_same(broadcast.joined(), (0, 1))
        self.assert_same(broadcast.journal(), (("join",), ("send", 1), ("join",)))
        self.assert_same(broadcast.heard(0), "a")
        self.assert_same(broadcast.knows(0), (0,))
        self.assert_same(broadcast.knows(1), ())
        self.assert_same(broadcast.records(), ((("join",), ((),)), (("send", 1), ((0,),)), (("join",), ((0,), ()))))

    def test_chosen_codes(self):
        for code in chosen_codes(50, 352):
            self.assertEqual(told_of(Broadcast(code).twin()), told_of(Broadcast(code)))


class Example(BroadcastCase):
    """Point 129."""

    def test_a_listener_behind_the_a_of_ab(self):
        broadcast = self.broadcast(("a", "ab"), (("send", 1), ("join",), ("step",)))
        self.assert_same(broadcast.heard(0), "b")
        self.assert_same(broadcast.knows(0), (1,))


if __name__ == "__main__":
    unittest.main()
