"""Circular codes that are made by eliminating words, and the journals of how this is done."""

from syncedwords.codes import LETTERS, MOST_WORDS, are_words, check_number, has_letters, is_tuple_of
from syncedwords.errors import BadValue, NotPossible
from syncedwords.lengths import are_counts, check_size, least_failing
from syncedwords.prefixes import by_length
from syncedwords.rings import nth_cut, offset, root_of

MOST_LENGTHS = 5
MOST_GIVEN_WORDS = 12
MOST_LETTERS = 8
STEPS = ("keep", "drop")


def check_few_counts(counts):
    """Raise BadValue if they are not counts of a code of at most 6 words."""
    if not are_counts(counts, MOST_LENGTHS, MOST_WORDS) or sum(counts) > MOST_WORDS:
        raise BadValue("counts")


def check_primitive(size, counts, ring):
    """Raise BadValue if it is not a primitive ring of the first letters, with at most as many as there are counts."""
    if not has_letters(ring, 1, len(counts)) or root_of(ring) != ring:
        raise BadValue("ring")
    if not all([letter in LETTERS[:size] for letter in ring]):
        raise BadValue("ring")


def without(words, word, most):
    """List what comes if the word is eliminated from the words, up to so many letters, in order by length."""
    found = []
    copies = ""
    while len(copies) < most:
        found.extend([copies + other for other in words if other != word])
        copies += word
    return by_length([string for string in found if len(string) <= most])


def eliminated(words, word, most):
    """Return what comes if the word is eliminated from the words, up to so many letters."""
    if not are_words(words, MOST_GIVEN_WORDS, MOST_LETTERS):
        raise BadValue("words")
    if word not in words:
        raise BadValue("word")
    check_number(most, 1, MOST_LETTERS, "most")
    return tuple(without(words, word, most))


def first_words(size, counts):
    """List the words with which a journal begins, all of them open."""
    return list(LETTERS[:size]) if len(counts) > 0 else []


def is_next_step(opened, value):
    """Tell whether the value is a step that names an open word with as few letters as any of them has."""
    if not is_tuple_of(value, 2) or value[0] not in STEPS or value[1] not in opened:
        return False
    return len(value[1]) == min([len(word) for word in opened])


def stepped(words, opened, step, most):
    """Return the words and the open ones behind the step, both in order by length."""
    if step[0] == "keep":
        return words, [word for word in opened if word != step[1]]
    further = without(words, step[1], most)
    return further, [word for word in further if word in opened or word not in words]


def has_counts(words, counts):
    """Tell whether there are just so many words of each length as the counts tell."""
    lengths = [len(word) for word in words]
    return all([lengths.count(length) == count for length, count in enumerate(counts, start=1)])


def code_of(size, counts, value):
    """Return the words at the end of the journal, in order by length, or None if the value is no journal."""
    check_size(size)
    check_few_counts(counts)
    if not isinstance(value, tuple):
        return None
    words = first_words(size, counts)
    opened = list(words)
    for step in value:
        if not is_next_step(opened, step):
            return None
        words, opened = stepped(words, opened, step, len(counts))
    # A word that is not open any more, and is still there, has been kept.
    if len(opened) > 0 or not has_counts(words, counts):
        return None
    return tuple(words)


def accepts_journal(size, counts, value):
    """Tell whether the value is a journal for so many letters and the counts."""
    return code_of(size, counts, value) is not None


def told_steps(opened, length, wanted):
    """List the steps of the told journal for the open words of the length."""
    row = [word for word in opened if len(word) == length]
    return [("keep", word) for word in row[:wanted]] + [("drop", word) for word in row[wanted:]]


def told_journal(size, counts):
    """Return the told journal, or None if some length fails."""
    check_size(size)
    check_few_counts(counts)
    if least_failing(size, counts) is not None:
        return None
    words = first_words(size, counts)
    opened = list(words)
    journal = []
    for length, wanted in enumerate(counts, start=1):
        # What comes of a dropped word is longer, so the steps of a length are known together.
        row = told_steps(opened, length, wanted)
        for step in row:
            words, opened = stepped(words, opened, step, len(counts))
        journal.extend(row)
    return tuple(journal)


def made_code(size, counts):
    """Return the made code, in order by length, or None if some length fails."""
    # Where a length fails, there is no journal, and None is none.
    return code_of(size, counts, told_journal(size, counts))


def became(size, counts, ring):
    """Return what became of the ring: the word, turned, that was dropped, or its cut by the made code."""
    check_size(size)
    check_few_counts(counts)
    check_primitive(size, counts, ring)
    journal = told_journal(size, counts)
    if journal is None:
        raise NotPossible("fails")
    for action, word in journal:
        if action == "drop" and offset(word, ring) is not None:
            return "dropped", word
    return "cut", nth_cut(code_of(size, counts, journal), ring, 0)
