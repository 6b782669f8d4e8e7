import itertools
import string
import unittest

from helper import NO_STRINGS, texts_up_to
from talkalike.texts import LETTERS, compare_texts, is_text, next_text, number_of_text, text_of_number


class IsText(unittest.TestCase):

    def test_letters(self):
        self.assertEqual(LETTERS, string.ascii_lowercase)

    def test_texts(self):
        for value in ("", "a", "z", "abc", string.ascii_lowercase, "zz" * 50000):
            self.assertIs(is_text(value), True)

    def test_strings_that_are_no_texts(self):
        for value in ("A", "aB", "a1", "0", "a b", " ", " a", "a ", "a\n", "\n", "\ta", "a?", "*", "=a", "#0", "-", "_",
                      "`", "{", "\u00e9", "\u00df", "\u00aa", "\u0430", "a\u0301", "\x00", "abcZ", "9abc"):
            self.assertIs(is_text(value), False, value)

    def test_values_that_are_no_strings(self):
        for value in NO_STRINGS:
            self.assertIs(is_text(value), False, value)


class Order(unittest.TestCase):

    def test_pairs(self):
        for first, second in (("", "a"), ("a", "b"), ("z", "aa"), ("az", "ba"), ("b", "aa"), ("zz", "aaa"),
                              ("abcd", "abce"), ("abz", "aca"), ("azzz", "baaa"), ("y" * 999, "a" * 1000),
                              ("a" * 999 + "a", "a" * 999 + "b"), ("aaaa", "aaaaa")):
            self.assertEqual(compare_texts(first, second), -1, (first, second))
            self.assertEqual(compare_texts(second, first), 1, (first, second))
            self.assertEqual(compare_texts(first, first), 0)
            self.assertEqual(compare_texts(second, second), 0)

    def test_order_of_all_short_texts(self):
        texts = list(texts_up_to(3, "abz"))
        for (at, first), (to, second) in itertools.product(enumerate(texts), repeat=2):
            self.assertEqual(compare_texts(first, second), (at > to) - (at < to))


class Numbers(unittest.TestCase):

    def test_examples(self):
        for text, number in (("", 0), ("a", 1), ("b", 2), ("z", 26), ("aa", 27), ("az", 52), ("ba", 53), ("zz", 702),
                             ("aaa", 703), ("zzz", 18278), ("aaaa", 18279)):
            self.assertEqual(number_of_text(text), number)
            self.assertEqual(text_of_number(number), text)

    def test_sequence_without_gaps(self):
        for number, text in enumerate(texts_up_to(3)):
            self.assertEqual(number_of_text(text), number)
            self.assertEqual(text_of_number(number), text)

    def test_large_numbers(self):
        before = sum(26 ** size for size in range(2000))
        self.assertEqual(number_of_text("a" * 2000), before)
        self.assertEqual(number_of_text("z" * 2000), before + 26 ** 2000 - 1)
        self.assertEqual(text_of_number(before - 1), "z" * 1999)
        self.assertEqual(text_of_number(before), "a" * 2000)
        self.assertEqual(text_of_number(before + 27), "a" * 1998 + "bb")
        for number in (2 ** 31, 2 ** 53 + 1, 2 ** 64 - 1, 10 ** 30, 10 ** 5000 + 7):
            self.assertEqual(number_of_text(text_of_number(number)), number)


class NextText(unittest.TestCase):

    def test_examples(self):
        for text, following in (("", "a"), ("a", "b"), ("y", "z"), ("z", "aa"), ("azz", "baa"), ("zz", "aaa"),
                                ("az", "ba"), ("zaz", "zba"), ("zay", "zaz"), ("zzz", "aaaa"), ("abc", "abd"),
                                ("z" * 3000, "a" * 3001), ("y" + "z" * 3000, "z" + "a" * 3000)):
            self.assertEqual(next_text(text), following)

    def test_next_number(self):
        texts = list(texts_up_to(3))
        for text, following in zip(texts, texts[1:]):
            self.assertEqual(next_text(text), following)


if __name__ == "__main__":
    unittest.main()
