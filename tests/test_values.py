import itertools
import unittest

from helper import NO_STRINGS
from talkalike.values import compare_values, is_id, is_value, value_key

# In the order of values.
VALUES = (["", "a", "b", "z", "aa", "ab", "ba", "zz", "aaa", "z" * 30] +
          [-1, -2, -3, -9, -10, -11, -10 ** 30, -10 ** 40] + [0, 1, 2, 9, 10, 11, 10 ** 30, 10 ** 40])


class Kinds(unittest.TestCase):

    def test_ids(self):
        for value in (0, 1, -1, 25, -7, 10 ** 30, -10 ** 30):
            self.assertIs(is_id(value), True)
            self.assertIs(is_value(value), True)

    def test_texts(self):
        for value in ("", "a", "abc", "z" * 100):
            self.assertIs(is_id(value), False)
            self.assertIs(is_value(value), True)

    def test_others(self):
        for value in ("A", "0", "-1", "#0", "=a", "a b", "a\n", "?", " ", True, False, None, (), [], (0,), [0], ("a",),
                      ("own", 0)):
            self.assertIs(is_id(value), False, value)
            self.assertIs(is_value(value), False, value)
        for value in NO_STRINGS:
            self.assertIs(is_id(value), type(value) is int)
            self.assertIs(is_value(value), type(value) is int)


class Order(unittest.TestCase):

    def test_examples(self):
        self.assertEqual(compare_values("b", "aa"), -1)
        self.assertEqual(compare_values(0, -7), 1)
        self.assertEqual(compare_values(-7, -7), 0)
        self.assertEqual(compare_values("zzz", -1), -1)
        self.assertEqual(compare_values(-2, -1), 1)
        self.assertEqual(compare_values(-10 ** 30, 0), -1)

    def test_order_of_values(self):
        for (at, first), (to, second) in itertools.product(enumerate(VALUES), repeat=2):
            self.assertEqual(compare_values(first, second), (at > to) - (at < to), (first, second))

    def test_keys(self):
        for (at, first), (to, second) in itertools.product(enumerate(VALUES), repeat=2):
            one, two = value_key(first), value_key(second)
            self.assertIs(type(one), tuple)
            self.assertEqual((one < two, one == two, one > two), (at < to, at == to, at > to), (first, second))

    def test_sorting_by_keys(self):
        self.assertEqual(sorted(reversed(VALUES), key=value_key), VALUES)


if __name__ == "__main__":
    unittest.main()
