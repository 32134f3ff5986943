"""The states of a code, and where a letter leads from them."""

from syncedwords.codes import LETTERS


def all_states(code):
    """List the states: None for the boundary, and pairs of a word and how many of its letters were read."""
    inside = [(word, letters) for word in range(len(code)) for letters in range(1, len(code[word]))]
    return [None] + inside


def leading(code):
    """Map each letter to a list with, for each state, the states to which the letter leads from it, ascending."""
    states = all_states(code)
    numbers = {state: number for number, state in enumerate(states)}
    leads = {letter: [[] for _ in states] for letter in LETTERS}
    for word, letters in enumerate(code):
        here = 0
        for place, letter in enumerate(letters):
            # All letters of a word together are no state of their own: behind them is the boundary.
            there = numbers.get((word, place + 1), 0)
            leads[letter][here].append(there)
            here = there
    return {letter: [sorted(row) for row in leads[letter]] for letter in LETTERS}


def led_on(leads, states, letter):
    """List the states to which the letter leads from one of the states, ascending."""
    return sorted(set([further for state in states for further in leads[letter][state]]))


def led_back(leads, states, letter):
    """List the states from which the letter leads to one of the states, ascending."""
    table = leads[letter]
    return [state for state in range(len(table)) if any([further in states for further in table[state]])]


def states_of_word(code, word):
    """List the states of a reader along the word, from the boundary ahead of it to the one behind it."""
    states = all_states(code)
    return [0] + [states.index((word, letters)) for letters in range(1, len(code[word]))] + [0]
