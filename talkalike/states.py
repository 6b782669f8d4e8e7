"""The states of texts for a list of patterns."""

from talkalike.errors import TooManyStates
from talkalike.patterns import next_lengths, start_lengths
from talkalike.texts import LETTERS

MOST_STATES = 400


def start_state(patterns):
    """Return the state of the empty text."""
    return tuple([start_lengths(pattern) for pattern in patterns])


def next_state(patterns, state, letter):
    """Return the state of a text followed by the letter; state is the state of the text."""
    return tuple([next_lengths(pattern, lengths, letter) for pattern, lengths in zip(patterns, state)])


def state_of(patterns, text):
    """Return the state of a text."""
    state = start_state(patterns)
    for letter in text:
        state = next_state(patterns, state, letter)
    return state


def accepted(patterns, state):
    """Return the class of the texts that have this state."""
    return tuple([len(pattern) in lengths for pattern, lengths in zip(patterns, state)])


def all_states(patterns):
    """Return the list of all states that texts have, in the order of the first texts that have them."""
    return state_graph(patterns)[0]


def state_graph(patterns):
    """Return (states, steps): the states as all_states lists them, and where each letter leads.

    steps has one list for each state: for each letter, in order, the index of the state behind it.
    """
    states = [start_state(patterns)]
    numbers = {states[0]: 0}
    steps = []
    # The first text of a state is the first text of an earlier state and a letter: so taking the
    # states in the order in which they are found, and the letters in order, keeps the promised order.
    while len(steps) < len(states):
        behind = states_behind(patterns, states[len(steps)])
        for state in behind:
            if state not in numbers:
                if len(states) == MOST_STATES:
                    raise TooManyStates()
                numbers[state] = len(states)
                states.append(state)
        steps.append([numbers[state] for state in behind])
    return states, steps


def states_behind(patterns, state):
    """Return the list of the states behind each letter, in the order of the letters."""
    named = "".join(patterns)
    other = None
    found = []
    for letter in LETTERS:
        if letter in named:
            found.append(next_state(patterns, state, letter))
        else:
            # All letters that stand in no pattern lead to the same state.
            if other is None:
                other = next_state(patterns, state, letter)
            found.append(other)
    return found
