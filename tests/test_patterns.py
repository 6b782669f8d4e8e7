import itertools
import unittest

from helper import NO_STRINGS, TestCase, fits, texts_up_to
from talkalike.errors import BadPattern
from talkalike.patterns import check_pattern, is_pattern, is_plain, matches

PATTERNS = ["", "a", "?", "*", "**", "abcdefgh", "????????", "a*b*c", "*?*", "**??????", "z*z", "??", "aaaaaaa*"]
NOT_PATTERNS = ["abcdefghi", "?????????", "***", "a*b*c*", "*a*b*c", "A", "aB", "a1", "a ", " ", "a\n", "\n", "*\n",
                "a.b", "a+", "[a]", "-", "=a", "\u00e9", "\u00e9*", "*" * 9, "abcdefgh*"]


class IsPattern(TestCase):

    def test_patterns(self):
        for value in PATTERNS:
            self.assertIs(is_pattern(value), True, value)
            self.assertIsNone(check_pattern(value))

    def test_strings_that_are_no_patterns(self):
        for value in NOT_PATTERNS:
            self.assertIs(is_pattern(value), False, value)
            self.assert_fails(BadPattern, value, check_pattern, value)

    def test_values_that_are_no_strings(self):
        for value in NO_STRINGS + [10 ** 6000]:
            self.assertIs(is_pattern(value), False)
            self.assert_fails(BadPattern, value, check_pattern, value)


class IsPlain(unittest.TestCase):

    def test_plain(self):
        for pattern in ("", "a", "abcdefgh"):
            self.assertIs(is_plain(pattern), True)

    def test_not_plain(self):
        for pattern in ("?", "*", "a?", "*a", "abc*", "ab?cd", "a*?", "abcdefg?", "abcdefg*"):
            self.assertIs(is_plain(pattern), False)


class Matches(unittest.TestCase):

    def test_examples(self):
        for pattern, text, expected in (
            ("a*?", "abc", True), ("a*?", "a", False), ("a*?", "ab", True), ("", "", True), ("", "a", False),
            ("a", "", False), ("a", "a", True), ("a", "aa", False), ("abc", "abd", False), ("?", "", False),
            ("?", "q", True), ("?", "qq", False), ("*", "", True), ("**", "", True), ("**", "abc", True),
            ("*?", "", False), ("?*", "", False), ("?*", "z", True), ("*?*", "", False), ("*?*", "zz", True),
            ("a*b*", "ab", True), ("a*b*", "aab", True), ("a*b*", "ba", False), ("*ab*", "aab", True),
            ("*ab*", "ba", False), ("*ab", "abab", True), ("*ab", "aba", False), ("a*a", "a", False),
            ("a*a", "aa", True), ("?*?", "a", False), ("?*?", "ab", True),
        ):
            self.assertIs(matches(pattern, text), expected, (pattern, text))

    def test_long_texts(self):
        self.assertIs(matches("a*b*c", "a" * 20000 + "b" + "a" * 20000 + "c"), True)
        self.assertIs(matches("a*b*c", "a" * 40000 + "c"), False)
        self.assertIs(matches("????????", "abcdefgh"), True)
        self.assertIs(matches("????????", "abcdefghi"), False)

    def test_against_regular_expressions(self):
        texts = list(texts_up_to(4, "ab"))
        for size in range(5):
            for row in itertools.product("ab?*", repeat=size):
                pattern = "".join(row)
                if is_pattern(pattern):
                    for text in texts:
                        self.assertIs(matches(pattern, text), fits(pattern, text), (pattern, text))


if __name__ == "__main__":
    unittest.main()
