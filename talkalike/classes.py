"""The classes of texts for a list of patterns, and the first texts of each class."""

from talkalike.errors import TooManyClasses, TooManyPatterns
from talkalike.lists import without_repeats
from talkalike.patterns import is_plain, matches
from talkalike.states import accepted, state_graph
from talkalike.texts import LETTERS

MOST_OPEN_PATTERNS = 4
MOST_PLAIN_PATTERNS = 12
MOST_CLASSES = 24


def class_of(patterns, text):
    """Return the class of a text: for each pattern, whether it matches the text."""
    return tuple([matches(pattern, text) for pattern in patterns])


def all_classes(patterns):
    """Return the list of the inhabited classes, in the order of their first texts."""
    states, _ = state_graph(patterns)
    return without_repeats(classes_of_states(patterns, states))


def first_texts(patterns, wanted, count, but=()):
    """Return the first texts of the class wanted that are not in but: count of them, or all there are."""
    states, steps = state_graph(patterns)
    # Each text of but takes away at most one of the first texts of the class.
    texts = texts_of_class(classes_of_states(patterns, states), steps, wanted, count + len(but))
    return [text for text in texts if text not in but][:count]


def first_text(patterns, wanted, but=()):
    """Return the first text of the class wanted that is not in but, or None if there is none."""
    texts = first_texts(patterns, wanted, 1, but)
    return texts[0] if texts else None


def first_rows(patterns, count):
    """Return, for each inhabited class in order, the list of its first texts: count of them, or all there are."""
    return list(first_table(patterns, count).values())


def first_table(patterns, count):
    """Return a dict from each inhabited class, in order, to what first_rows returns for it."""
    states, steps = state_graph(patterns)
    classes = classes_of_states(patterns, states)
    return {wanted: texts_of_class(classes, steps, wanted, count) for wanted in without_repeats(classes)}


def check_patterns(patterns):
    """Raise an error if a question about these patterns is too large."""
    plain = len([pattern for pattern in patterns if is_plain(pattern)])
    if len(patterns) - plain > MOST_OPEN_PATTERNS or plain > MOST_PLAIN_PATTERNS:
        raise TooManyPatterns()
    if len(all_classes(patterns)) > MOST_CLASSES:
        raise TooManyClasses()


def classes_of_states(patterns, states):
    """Return the list of the classes of the texts that have these states, one for each state."""
    return [accepted(patterns, state) for state in states]


def texts_of_class(classes, steps, wanted, count):
    """Return the first texts of the class wanted: count of them, or all there are.

    classes and steps belong to the states of a list of patterns.
    """
    found = []
    # ahead[n] tells of each state whether some n letters lead from it to the class. Every state is
    # that of some text, so there is no longer text in the class once no state has n letters to go.
    ahead = [[one == wanted for one in classes]]
    while len(found) < count and any(ahead[-1]):
        found.extend(texts_of_length(steps, ahead, count - len(found)))
        last = ahead[-1]
        ahead.append([any([last[index] for index in row]) for row in steps])
    return found


def texts_of_length(steps, ahead, count):
    """Return the first texts of the class that have the length of the last list of ahead, at most count."""
    rows = [("", 0)] if ahead[-1][0] else []
    for reaching in reversed(ahead[:-1]):
        longer = []
        for text, state in rows:
            for letter, index in zip(LETTERS, steps[state]):
                if reaching[index]:
                    longer.append((text + letter, index))
        # Every row that is kept leads to a text of the class, so no more than count rows are needed.
        rows = longer[:count]
    return [text for text, _ in rows]
