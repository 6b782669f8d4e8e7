"""What several tests share: slow but plain ways to find what the program must return."""

import itertools
import re
import string
import unittest

NO_STRINGS = [0, 1, -1, 7, None, True, False, [], ["a"], (), ("a",), ("a", "b")]

# Exactly 400 states: 16 * 23 + 1 for the four open patterns, and 31 beginnings of the plain ones.
OPEN = ["*abcdef*", "*ghijkl*", "*mnopqr*", "*stuvwx*"]
STATES_400 = OPEN + ["yyyyyyyy", "zzzzzzzz", "yzyyyyyy", "zyzzzzzz", "yyz"]
STATES_401 = STATES_400 + ["zzy"]


def texts_up_to(length, letters=string.ascii_lowercase):
    """All texts over these letters up to this length, in the order of texts."""
    for size in range(length + 1):
        for row in itertools.product(letters, repeat=size):
            yield "".join(row)


def fits(pattern, text):
    """Whether the pattern matches the text, asked of Python's regular expressions."""
    return re.fullmatch(pattern.replace("?", "[a-z]").replace("*", "[a-z]*"), text) is not None


def class_by_hand(patterns, text):
    return tuple(fits(pattern, text) for pattern in patterns)


class TestCase(unittest.TestCase):

    def assert_fails(self, kind, place, function, *arguments):
        """The call raises exactly this error with exactly this place."""
        with self.assertRaises(kind) as caught:
            function(*arguments)
        self.assertIs(type(caught.exception), kind)
        self.assertEqual(caught.exception.word, kind.__name__)
        self.assertEqual(caught.exception.place, place)
        self.assertIs(type(caught.exception.place), type(place))
