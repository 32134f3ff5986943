"""Rings: their cuts into words, their roots and rotations, and the necklaces of a code."""

from syncedwords.codes import check_code, check_number, has_letters, is_ascending, is_number
from syncedwords.errors import BadValue

MOST_RING_LETTERS = 12
MOST_NECKLACE_LETTERS = 7


def is_ring(value):
    """Tell whether the value is a ring."""
    return has_letters(value, 1, MOST_RING_LETTERS)


def check_ring(value, name):
    """Raise BadValue with the name of the argument if the value is not a ring."""
    if not is_ring(value):
        raise BadValue(name)


def pieces(ring, cut):
    """List the letters from each place of the cut to the next one, and from the last one around to the first."""
    around = ring + ring
    ends = cut[1:] + (cut[0] + len(ring),)
    return [around[place:end] for place, end in zip(cut, ends)]


def is_cut_of(code, ring, value):
    """Tell whether the value is a cut of the ring, which can have any number of letters here."""
    if not isinstance(value, tuple) or len(value) == 0:
        return False
    if not all([is_number(place, 0, len(ring) - 1) for place in value]) or not is_ascending(value):
        return False
    return all([piece in code for piece in pieces(ring, value)])


def is_cut(code, ring, value):
    """Tell whether the value is a cut of the ring."""
    check_code(code, "code")
    check_ring(ring, "ring")
    return is_cut_of(code, ring, value)


def next_places(code, ring, place):
    """List the later places of the ring to which the letters from the place make a word."""
    return [further for further in range(place + 1, len(ring)) if ring[place:further] in code]


def closings(code, ring, first, place):
    """Tell how many cuts with this first place have the place as their last one: 1 or 0."""
    around = ring + ring
    return 1 if around[place:first + len(ring)] in code else 0


def counts_on(code, ring, first):
    """List, for each place of the ring, in how many ways a cut with this first place goes on from it."""
    counts = [0] * len(ring)
    for place in range(len(ring) - 1, first - 1, -1):
        further = sum([counts[later] for later in next_places(code, ring, place)])
        counts[place] = closings(code, ring, first, place) + further
    return counts


def counts_by_first(code, ring):
    """List, for each place of the ring, how many cuts have it as their first one."""
    return [counts_on(code, ring, first)[first] for first in range(len(ring))]


def count_cuts(code, ring):
    """Return the number of the cuts of the ring."""
    check_code(code, "code")
    check_ring(ring, "ring")
    return sum(counts_by_first(code, ring))


def chosen(places, counts, left):
    """Return the one of the places to which the number leads that is left, and what is left of it there."""
    at = 0
    while left >= counts[places[at]]:
        left -= counts[places[at]]
        at += 1
    return places[at], left


def nth_cut(code, ring, index):
    """Return the cut of the ring with the index."""
    check_code(code, "code")
    check_ring(ring, "ring")
    firsts = counts_by_first(code, ring)
    check_number(index, 0, sum(firsts) - 1, "index")
    first, left = chosen(list(range(len(ring))), firsts, index)
    counts = counts_on(code, ring, first)
    cut = [first]
    # A cut that ends at its last place comes before all that go on from there.
    left -= closings(code, ring, first, first)
    while left >= 0:
        place, left = chosen(next_places(code, ring, cut[-1]), counts, left)
        cut.append(place)
        left -= closings(code, ring, first, place)
    return tuple(cut)


def index_of_cut(code, ring, value):
    """Return the index of the cut, or None if the value is not a cut of the ring."""
    check_code(code, "code")
    check_ring(ring, "ring")
    if not is_cut_of(code, ring, value):
        return None
    first = value[0]
    counts = counts_on(code, ring, first)
    index = sum(counts_by_first(code, ring)[:first])
    for place, further in zip(value, value[1:]):
        lesser = [counts[later] for later in next_places(code, ring, place) if later < further]
        index += closings(code, ring, first, place) + sum(lesser)
    return index


def words_of_cut(code, ring, cut):
    """Return the numbers of the words that the cut makes, from its first place on."""
    check_code(code, "code")
    check_ring(ring, "ring")
    if not is_cut_of(code, ring, cut):
        raise BadValue("cut")
    return tuple([code.index(piece) for piece in pieces(ring, cut)])


def turned(ring, many):
    """Put the first letters of the ring, so many, behind the others."""
    return ring[many:] + ring[:many]


def rotated(ring, many):
    """Return the ring rotated by so many letters."""
    check_ring(ring, "ring")
    check_number(many, 0, len(ring) - 1, "many")
    return turned(ring, many)


def root_of(ring):
    """Return the shortest string of which the ring is a power."""
    lengths = [many for many in range(1, len(ring) + 1) if len(ring) % many == 0]
    return [ring[:many] for many in lengths if ring[:many] * (len(ring) // many) == ring][0]


def root(ring):
    """Return the pair of the root of the ring and its exponent."""
    check_ring(ring, "ring")
    part = root_of(ring)
    return part, len(ring) // len(part)


def least_turned(ring):
    """Return the pair of the first rotation of the ring, as strings are compared, and its offset."""
    return min([(turned(ring, many), many) for many in range(len(ring))])


def least_rotation(ring):
    """Return the pair of the least rotation of the ring and its offset."""
    check_ring(ring, "ring")
    return least_turned(ring)


def offset(first, second):
    """Return the least number of letters by which the first ring is rotated to the second one, or None."""
    check_ring(first, "first")
    check_ring(second, "second")
    for many in range(len(first)):
        if turned(first, many) == second:
            return many
    return None


def messages_of(code, many):
    """List the messages of the code with so many letters, ascending."""
    rows = [[""]]
    for length in range(1, many + 1):
        short = [word for word in code if len(word) <= length]
        row = sorted(set([ahead + word for word in short for ahead in rows[length - len(word)]]))
        rows.append(row)
    return rows[many]


def count_necklaces(code, many):
    """Return the number of the necklaces of the code with so many letters."""
    check_code(code, "code")
    check_number(many, 1, MOST_NECKLACE_LETTERS, "many")
    # A ring has a cut exactly if one of its rotations is a message.
    primitive = [ring for ring in messages_of(code, many) if root_of(ring) == ring]
    return len(set([least_turned(ring)[0] for ring in primitive]))
