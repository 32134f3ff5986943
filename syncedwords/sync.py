"""The states of a code, and its synchronization delay."""

from syncedwords.codes import LETTERS, check_code
from syncedwords.pairs import apart, pair_ranks, pairs_on
from syncedwords.steps import all_states, leading
from syncedwords.unique import is_unique


def states(code):
    """Return the list of the states of the code."""
    check_code(code, "code")
    return all_states(code)


def delay_of(code, ranks):
    """Return the delay that the ranks of the pairs tell, or None if some pair has no rank."""
    if len(ranks) < len(apart(code)):
        return None
    return max([0] + list(ranks.values()))


def delay(code):
    """Return the synchronization delay of the code, or None if it has none."""
    check_code(code, "code")
    return delay_of(code, pair_ranks(code, leading(code)))


def is_synced(code):
    """Tell whether the code is self-synchronizing."""
    check_code(code, "code")
    return is_unique(code) and delay(code) is not None


def of_rank(leads, ranks, pairs, letter, rank):
    """List the pairs with the rank to which the letter leads from the pairs."""
    found = {}
    for pair in pairs:
        for further in pairs_on(leads, pair, letter):
            if ranks.get(further, 0) == rank:
                found[further] = True
    return list(found)


def longest_unsynced(code):
    """Return the longest unsynchronized string, or None if the code has no delay or the delay 0."""
    check_code(code, "code")
    leads = leading(code)
    ranks = pair_ranks(code, leads)
    many = delay_of(code, ranks)
    if many is None or many == 0:
        return None
    pairs = [pair for pair in ranks if ranks[pair] == many]
    string = ""
    # On a longest way the rank falls by one with each letter, and any pair with the
    # rank goes on to the end: so the least letter can be taken at each place.
    for rank in range(many - 1, 0, -1):
        ways = {letter: of_rank(leads, ranks, pairs, letter, rank) for letter in LETTERS}
        least = [letter for letter in LETTERS if len(ways[letter]) > 0][0]
        string += least
        pairs = ways[least]
    return string
