import itertools
import string
import unittest

from helper import OPEN, STATES_400, STATES_401, TestCase, class_by_hand, fits, texts_up_to
from talkalike.errors import TooManyStates
from talkalike.patterns import is_pattern
from talkalike.states import accepted, all_states, next_state, start_state, state_of

LISTS = [[], [""], ["a"], ["*"], ["**"], ["a*", "b"], ["*ab*", "?", "b?a"], ["a?*", "*?a", "**", ""], ["ab", "a", "b*"]]


def state_by_hand(patterns, text):
    """The state of a text as point 1.4 defines it."""
    return tuple(tuple(k for k in range(len(pattern) + 1) if fits(pattern[:k], text)) for pattern in patterns)


class StatesOfTexts(unittest.TestCase):

    def test_examples(self):
        self.assertEqual(state_of(["a*", "b"], "a"), ((1, 2), ()))
        self.assertEqual(state_of([], "abc"), ())
        self.assertEqual(state_of([""], ""), ((0,),))
        self.assertEqual(state_of([""], "a"), ((),))
        self.assertEqual(state_of(["**"], ""), ((0, 1, 2),))
        self.assertEqual(state_of(["**"], "b"), ((1, 2),))
        self.assertEqual(state_of(["*?*a"], "aba"), ((1, 2, 3, 4),))

    def test_start_state(self):
        self.assertEqual(start_state([]), ())
        self.assertEqual(start_state(["", "a", "*", "**a", "a*", "?*", "*?*"]),
                         ((0,), (0,), (0, 1), (0, 1, 2), (0,), (0,), (0, 1)))

    def test_by_definition(self):
        texts = list(texts_up_to(4, "abc"))
        for patterns in LISTS:
            self.assertEqual(start_state(patterns), state_by_hand(patterns, ""))
            for text in texts:
                self.assertEqual(state_of(patterns, text), state_by_hand(patterns, text))

    def test_each_small_pattern(self):
        for row in itertools.chain.from_iterable(itertools.product("ab?*", repeat=size) for size in range(5)):
            pattern = "".join(row)
            if is_pattern(pattern):
                for text in ("", "a", "b", "ab", "aab", "abab", "bba"):
                    self.assertEqual(state_of([pattern], text), state_by_hand([pattern], text), (pattern, text))

    def test_next_state_is_the_state_of_the_longer_text(self):
        for patterns in LISTS:
            for text, letter in itertools.product(texts_up_to(3, "abz"), string.ascii_lowercase):
                self.assertEqual(next_state(patterns, state_of(patterns, text), letter),
                                 state_of(patterns, text + letter))

    def test_long_text(self):
        self.assertEqual(state_of(["*ab*", "?"], "ba" * 10000 + "b"), ((1, 3, 4), ()))

    def test_arguments_stay(self):
        patterns = ["a*", "b"]
        state = state_of(patterns, "a")
        next_state(patterns, state, "b")
        accepted(patterns, state)
        all_states(patterns)
        start_state(patterns)
        self.assertEqual(patterns, ["a*", "b"])
        self.assertEqual(state, ((1, 2), ()))


class Accepted(unittest.TestCase):

    def test_class_of_the_texts_with_the_state(self):
        self.assertEqual(accepted([], ()), ())
        self.assertEqual(accepted(["a*", "b"], ((1, 2), ())), (True, False))
        self.assertEqual(accepted(["", "a"], ((0,), (0,))), (True, False))
        for patterns in LISTS:
            for text in texts_up_to(3, "ab"):
                found = accepted(patterns, state_of(patterns, text))
                self.assertEqual(found, class_by_hand(patterns, text))
                self.assertIs(type(found), tuple)
                self.assertTrue(all(item is True or item is False for item in found))


class AllStates(TestCase):

    def test_examples(self):
        self.assertEqual(all_states([]), [()])
        self.assertEqual(all_states([""]), [((0,),), ((),)])
        self.assertEqual(all_states(["b"]), [((0,),), ((),), ((1,),)])
        self.assertEqual(all_states(["**"]), [((0, 1, 2),), ((1, 2),)])

    def test_order_of_first_texts(self):
        for patterns in LISTS + [["zz", "z"], ["*zy*"], ["?b", "b?"], ["ca", "b*"]]:
            by_hand = list(dict.fromkeys(state_by_hand(patterns, text) for text in texts_up_to(3)))
            self.assertEqual(all_states(patterns), by_hand)

    def test_every_step_leads_to_a_listed_state(self):
        states = all_states(STATES_400)
        self.assertEqual(len(set(states)), len(states))
        for state in states:
            for letter in string.ascii_lowercase:
                self.assertIn(next_state(STATES_400, state, letter), states)

    def test_many_states(self):
        self.assertEqual(len(all_states(OPEN)), 369)
        self.assertEqual(len(all_states(STATES_400)), 400)
        self.assert_fails(TooManyStates, None, all_states, STATES_401)
        self.assert_fails(TooManyStates, None, all_states, ["*%s*" % letter for letter in "abcdefghi"])

    def test_forty_patterns(self):
        # 40 patterns with 7 beginnings of their own, 20 shared ones, the empty text, and all other texts.
        plain = [first + second + "cdefgh" for first in "abcdefghijklmnopqrst" for second in "xy"]
        self.assertEqual(len(all_states(plain)), 40 * 7 + 20 + 2)

    def test_list_is_new(self):
        patterns = ["a*"]
        first = all_states(patterns)
        first.append("changed")
        first[0] = "changed"
        self.assertEqual(all_states(patterns), [((0,),), ((1, 2),), ((),), ((2,),)])


if __name__ == "__main__":
    unittest.main()
