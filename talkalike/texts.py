"""Texts, their order and their numbers."""

LETTERS = "abcdefghijklmnopqrstuvwxyz"


def is_text(value):
    """Return True if the value is a string of lower-case letters from a to z."""
    return isinstance(value, str) and all(sign in LETTERS for sign in value)


def compare_keys(first, second):
    """Return -1, 0 or 1 for two tuples whose order is the order of what they stand for."""
    if first == second:
        return 0
    return -1 if first < second else 1


def text_key(text):
    """Return a tuple; the tuples of two texts have the order of the texts."""
    return (len(text), text)


def compare_texts(first, second):
    """Return -1 if the first text comes before the second one, 1 if behind it, 0 if they are the same."""
    return compare_keys(text_key(first), text_key(second))


def number_of_text(text):
    """Return the index of the text in the sequence of all texts."""
    number = 0
    for letter in text:
        number = number * len(LETTERS) + LETTERS.index(letter) + 1
    return number


def text_of_number(number):
    """Return the text with this index in the sequence of all texts."""
    letters = []
    while number > 0:
        number, index = divmod(number - 1, len(LETTERS))
        letters.append(LETTERS[index])
    return "".join(reversed(letters))


def next_text(text):
    """Return the text that comes directly behind this one."""
    head = text.rstrip("z")
    turned = "a" * (len(text) - len(head))
    if head == "":
        return turned + "a"
    return head[:-1] + LETTERS[LETTERS.index(head[-1]) + 1] + turned
