"""Values: texts and ids, and their order."""

from talkalike.texts import compare_keys, is_text, text_key


def is_id(value):
    """Return True if the value is an integer, but not True or False."""
    return isinstance(value, int) and not isinstance(value, bool)


def is_value(value):
    """Return True if the value is a text or an id."""
    return is_text(value) or is_id(value)


def value_key(value):
    """Return a tuple; the tuples of two values have the order of the values."""
    if isinstance(value, str):
        return (0,) + text_key(value)
    if value < 0:
        return (1, -value)
    return (2, value)


def compare_values(first, second):
    """Return -1 if the first value comes first, 1 if the second one does, and 0 if they are equal."""
    return compare_keys(value_key(first), value_key(second))
