"""Broadcasts played again in the most direct way, to compare the program with, and commands to play with."""

import random

from tests.families import chosen_codes
from tests.oracle import all_states, leads

CODES = ((), ("a",), ("a", "ab"), ("ab", "ba"), ("a", "b", "c"), ("abc", "ca"), ("aab", "abb", "b"), ("abcab", "c"), ("a", "aa"))


class Played:
    """A broadcast: what was sent letter by letter, at which places it was at a boundary, and what each listener heard."""

    def __init__(self, code, journal=()):
        self.code = code
        self.letters = ""
        self.left = ""
        self.word = None
        self.boundaries = [0]
        self.heard = []
        self.begun = []
        for command in journal:
            self.play(command)

    def why(self, command):
        """The word for why the command is not possible, or None."""
        if command[0] == "send":
            return "busy" if self.left else None
        if command[0] == "step":
            return None if self.left else "idle"
        if command[0] == "join":
            return "many" if len(self.heard) == 6 else None
        return None if command[1] < len(self.heard) else "missing"

    def play(self, command):
        if command[0] == "join":
            self.heard.append("")
            self.begun.append(len(self.letters))
        elif command[0] == "leave":
            del self.heard[command[1]], self.begun[command[1]]
        else:
            if command[0] == "send":
                self.word = command[1]
                self.left = self.code[self.word]
            self.letters += self.left[0]
            self.heard = [string + self.left[0] for string in self.heard]
            self.left = self.left[1:]
            if not self.left:
                self.boundaries.append(len(self.letters))

    def inside(self):
        return (self.word, len(self.code[self.word]) - len(self.left)) if self.left else None


def commands_for(code):
    """All commands for the code."""
    sends = [("send", number) for number in range(len(code))]
    return sends + [("step",), ("join",)] + [("leave", number) for number in range(6)]


def runs_of(code, string):
    """All runs of the string, as tuples of states told as the program tells them."""
    runs = [(state,) for state in all_states(code)]
    for letter in string:
        ways = leads(code, letter)
        runs = [run + (there,) for run in runs for here, there in ways if run[-1] == here]
    return runs


def listed_known(code, string):
    """The places at which every run of the string is at the boundary."""
    runs = runs_of(code, string)
    return tuple(place for place in range(len(string) + 1) if all(run[place] is None for run in runs))


def told_of(broadcast):
    """All that a broadcast tells."""
    many = range(len(broadcast.joined()))
    return {
        "sent": broadcast.sent(), "inside": broadcast.inside(), "joined": broadcast.joined(), "journal": broadcast.journal(),
        "heard": [broadcast.heard(number) for number in many], "knows": [broadcast.knows(number) for number in many],
        "records": broadcast.records(),
    }


def chosen_journal(code, many, numbers):
    """So many commands, each possible behind those before it, in which letters are sent more often than not."""
    played = Played(code)
    journal = []
    while len(journal) < many:
        rows = [command for command in commands_for(code) if played.why(command) is None]
        sending = [command for command in rows if command[0] in ("send", "step")]
        command = numbers.choice(sending if sending and numbers.randrange(3) else rows)
        played.play(command)
        journal.append(command)
    return tuple(journal)


def chosen_plays(many, seed):
    """Pairs of a code and a journal that can be replayed, always the same ones."""
    numbers = random.Random(seed)
    codes = list(CODES) + chosen_codes(many, seed + 1, "abc", 4, 4)
    return [(code, chosen_journal(code, numbers.randrange(0, 21), numbers)) for code in codes]
