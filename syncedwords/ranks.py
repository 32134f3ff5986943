"""The evidence that a code is self-synchronizing, by ranks, or that it is not, by a ring."""

from syncedwords.codes import LETTERS, check_code, has_letters, is_ascending, is_integer, is_number, is_tuple_of
from syncedwords.pairs import TOGETHER, all_pairs_on, apart, first_parted, pair_ranks, pairs_on, parted
from syncedwords.rings import is_cut_of
from syncedwords.steps import all_states, leading
from syncedwords.unique import least_ambiguity

MOST_RING_LETTERS = 1000


def cut_of_parse(code, parse):
    """Return the boundaries of the parse, its last one left out, as the cut of its string as a ring."""
    places = [0]
    for number in parse[:-1]:
        places.append(places[-1] + len(code[number]))
    return tuple(places)


def ring_of_parses(code, string, parses):
    """Return evidence with the ring of a string that has these two parses."""
    return "ring", string, cut_of_parse(code, parses[0]), cut_of_parse(code, parses[1])


def first_way(leads, ranks, pair):
    """Return a letter and a pair without a rank to which it leads from such a pair."""
    ways = [(letter, further) for letter in LETTERS for further in pairs_on(leads, pair, letter)]
    # The pair of boundaries has no rank either, but it is not apart.
    return [way for way in ways if way[1] != TOGETHER and way[1] not in ranks][0]


def endless_way(code, leads, ranks):
    """List the pairs, all of them apart, and the letters of a way that comes back to where it began."""
    pair = [pair for pair in apart(code) if pair not in ranks][0]
    places = {}
    way = []
    while pair not in places:
        places[pair] = len(way)
        letter, further = first_way(leads, ranks, pair)
        way.append((pair, letter))
        pair = further
    return way[places[pair]:]


def ring_of_way(way):
    """Return evidence with the ring of the letters of a way that comes back to where it began."""
    ring = "".join([letter for _, letter in way])
    # Every way around comes to the boundary, but here never in both places of a pair at once.
    first = tuple([place for place, (pair, _) in enumerate(way) if pair[0] == 0])
    second = tuple([place for place, (pair, _) in enumerate(way) if pair[1] == 0])
    return "ring", ring, first, second


def sync_evidence(code):
    """Return evidence that the code is self-synchronizing, or that it is not."""
    check_code(code, "code")
    ambiguity = least_ambiguity(code)
    if ambiguity is not None:
        return ring_of_parses(code, ambiguity[0], ambiguity[1])
    leads = leading(code)
    ranks = pair_ranks(code, leads)
    pairs = apart(code)
    if len(ranks) < len(pairs):
        return ring_of_way(endless_way(code, leads, ranks))
    return "ranks", tuple([(pair, ranks[pair]) for pair in pairs]), tuple(parted(leads))


def is_pair_below(value, many):
    """Tell whether the value is a pair of integers from 0 on that are less than the number."""
    return is_tuple_of(value, 2) and all([is_number(state, 0, many - 1) for state in value])


def is_item(value, pair, many):
    """Tell whether the value is the pair, of states below the number, with an integer from 0 on."""
    if not is_tuple_of(value, 2) or not is_pair_below(value[0], many):
        return False
    return value[0] == pair and is_integer(value[1]) and value[1] >= 0


def are_ranks(code, leads, value):
    """Tell whether the value has a number for each pair that is apart, lesser ones where letters lead."""
    pairs = apart(code)
    if not is_tuple_of(value, len(pairs)):
        return False
    many = len(all_states(code))
    if not all([is_item(item, pair, many) for item, pair in zip(value, pairs)]):
        return False
    numbers = {pair: number for pair, number in value}
    for pair in pairs:
        further = [numbers[other] for other in all_pairs_on(leads, pair) if other != TOGETHER]
        if not all([number < numbers[pair] for number in further]):
            return False
    return True


def are_parted(code, leads, value):
    """Tell whether the value has all parted pairs, and not the pair of boundaries."""
    many = len(all_states(code))
    if not isinstance(value, tuple) or not all([is_pair_below(pair, many) for pair in value]):
        return False
    if not is_ascending(value) or TOGETHER in value:
        return False
    members = {pair: True for pair in value}
    further = first_parted(leads)
    for pair in value:
        further.extend(all_pairs_on(leads, pair))
    return all([pair in members for pair in further])


def are_two_cuts(code, ring, first, second):
    """Tell whether the first value is a ring, and the others are two different cuts of it."""
    if not has_letters(ring, 1, MOST_RING_LETTERS):
        return False
    return is_cut_of(code, ring, first) and is_cut_of(code, ring, second) and first != second


def accepts_sync(code, value):
    """Tell whether the value is accepted evidence about the code, of either kind."""
    check_code(code, "code")
    if is_tuple_of(value, 3) and value[0] == "ranks":
        leads = leading(code)
        return are_ranks(code, leads, value[1]) and are_parted(code, leads, value[2])
    if is_tuple_of(value, 4) and value[0] == "ring":
        return are_two_cuts(code, value[1], value[2], value[3])
    return False
