"""Patterns, and the state of a text for one pattern."""

from talkalike.errors import BadPattern
from talkalike.texts import LETTERS

MOST_SIGNS = 8
MOST_STARS = 2


def is_pattern(value):
    """Return True if the value is a pattern, otherwise False."""
    if not isinstance(value, str) or len(value) > MOST_SIGNS or value.count("*") > MOST_STARS:
        return False
    return all(sign in LETTERS or sign in "?*" for sign in value)


def check_pattern(value):
    """Raise BadPattern with the value as its place if it is not a pattern."""
    if not is_pattern(value):
        raise BadPattern(value)


def is_plain(pattern):
    """Return True if the pattern has neither of the signs that stand for other letters."""
    return "?" not in pattern and "*" not in pattern


def start_lengths(pattern):
    """Return the state of the empty text for one pattern: the lengths of the beginnings that match it."""
    stars = len(pattern) - len(pattern.lstrip("*"))
    return tuple(range(stars + 1))


def next_lengths(pattern, lengths, letter):
    """Return the state, for one pattern, of a text followed by the letter; lengths is the state of the text."""
    found = []
    matched = False
    for index, sign in enumerate(pattern):
        if sign == "*":
            # Either the star takes no letter at all, or it also takes this last one.
            matched = matched or (index + 1 in lengths)
        else:
            matched = index in lengths and sign in ("?", letter)
        if matched:
            found.append(index + 1)
    return tuple(found)


def matches(pattern, text):
    """Return True if the pattern matches the text, otherwise False."""
    if is_plain(pattern):
        return pattern == text
    lengths = start_lengths(pattern)
    for letter in text:
        lengths = next_lengths(pattern, lengths, letter)
    return len(pattern) in lengths
