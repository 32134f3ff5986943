"""Pairs of states: which are apart, which are parted, and their ranks."""

from syncedwords.codes import LETTERS
from syncedwords.reach import reached
from syncedwords.steps import all_states

TOGETHER = (0, 0)


def apart(code):
    """List the pairs of states that are apart, ascending."""
    many = len(all_states(code))
    pairs = [(first, second) for first in range(many) for second in range(many)]
    return [pair for pair in pairs if pair != TOGETHER]


def pairs_on(leads, pair, letter):
    """List the pairs to which the letter leads from the pair."""
    table = leads[letter]
    return [(first, second) for first in table[pair[0]] for second in table[pair[1]]]


def all_pairs_on(leads, pair):
    """List the pairs to which letters lead from the pair."""
    return [further for letter in LETTERS for further in pairs_on(leads, pair, letter)]


def first_parted(leads):
    """List the pairs of different states to which one letter leads from the pair of boundaries."""
    return [pair for pair in all_pairs_on(leads, TOGETHER) if pair[0] != pair[1]]


def parted(leads):
    """List the parted pairs, ascending."""
    return reached(first_parted(leads), lambda pair: all_pairs_on(leads, pair))


def pairs_back(leads, pairs):
    """Map each of the pairs to those of them from which letters lead to it."""
    back = {pair: [] for pair in pairs}
    for pair in pairs:
        for further in all_pairs_on(leads, pair):
            if further in back:
                back[further].append(pair)
    return back


def pair_ranks(code, leads):
    """Map each pair that is apart to its rank; those without one are left out."""
    pairs = apart(code)
    back = pairs_back(leads, pairs)
    # How many ways lead on from each pair to pairs that have no rank yet.
    waiting = {pair: 0 for pair in pairs}
    for pair in pairs:
        for before in back[pair]:
            waiting[before] += 1
    layer = [pair for pair in pairs if waiting[pair] == 0]
    ranks = {}
    rank = 0
    while layer:
        rank += 1
        further = []
        for pair in layer:
            ranks[pair] = rank
            for before in back[pair]:
                waiting[before] -= 1
                if waiting[before] == 0:
                    further.append(before)
        layer = further
    return ranks
