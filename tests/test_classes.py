import itertools
import unittest

from helper import OPEN, STATES_400, STATES_401, TestCase, class_by_hand, texts_up_to
from talkalike.classes import all_classes, check_patterns, class_of, first_rows, first_text, first_texts
from talkalike.errors import TooManyClasses, TooManyPatterns, TooManyStates

LISTS = [[], [""], ["*"], ["?"], ["a", "?"], ["a*", "b", "*b"], ["??", "a?", "?a"], ["z*", "*z", "?"], ["*?*"],
         ["", "a", "*a*"], ["ba", "b*", "??"], ["??*", "*z", "ab", "b"]]
LETTERS_16 = "abcdefghijklmnop"
PLAIN_12 = [letter * 2 for letter in LETTERS_16[:12]]
STARS_4 = ["*a*", "*b*", "*c*", "*d*"]


class ClassOf(unittest.TestCase):

    def test_examples(self):
        self.assertEqual(class_of([], "abc"), ())
        self.assertEqual(class_of(["a*", "b", "*"], "ab"), (True, False, True))

    def test_by_definition(self):
        for patterns in LISTS:
            for text in texts_up_to(3, "abz"):
                found = class_of(patterns, text)
                self.assertEqual(found, class_by_hand(patterns, text))
                self.assertTrue(type(found) is tuple and all(item is True or item is False for item in found))

    def test_no_limit_of_states(self):
        self.assertEqual(class_of(STATES_401, "zzy"), (False,) * 9 + (True,))


class AllClasses(TestCase):

    def test_examples(self):
        self.assertEqual(all_classes([]), [()])
        self.assertEqual(all_classes(["*"]), [(True,)])
        self.assertEqual(all_classes([""]), [(True,), (False,)])
        self.assertEqual(all_classes(["a", "?"]), [(False, False), (True, True), (False, True)])
        self.assertEqual(all_classes(["zz", "z", "*z"]),
                         [(False, False, False), (False, True, True), (False, False, True), (True, False, True)])

    def test_order_of_first_texts(self):
        for patterns in LISTS:
            by_hand = list(dict.fromkeys(class_by_hand(patterns, text) for text in texts_up_to(3)))
            self.assertEqual(all_classes(patterns), by_hand)

    def test_states(self):
        self.assertEqual(len(all_classes(STATES_400)), 21)
        self.assert_fails(TooManyStates, None, all_classes, STATES_401)

    def test_list_is_new(self):
        all_classes(["a"]).clear()
        self.assertEqual(all_classes(["a"]), [(False,), (True,)])

    def test_arguments_stay(self):
        patterns = ["?", "a", "*"]
        all_classes(patterns)
        class_of(patterns, "a")
        first_rows(patterns, 2)
        first_text(patterns, (True, True, True))
        self.assertEqual(patterns, ["?", "a", "*"])


class FirstTexts(TestCase):

    def test_examples(self):
        self.assertEqual(first_texts(["a", "?"], (False, True), 3, ["c"]), ["b", "d", "e"])
        self.assertEqual(first_texts(["a", "?"], (True, True), 3, ["a"]), [])
        self.assertEqual(first_texts([], (), 4), ["", "a", "b", "c"])
        self.assertEqual(first_texts([], (), 3, ["a", ""]), ["b", "c", "d"])
        self.assertEqual(first_texts(["*abcdef*"], (True,), 3), ["abcdef", "aabcdef", "abcdefa"])
        self.assertEqual(first_texts(["????????"], (True,), 2), ["aaaaaaaa", "aaaaaaab"])
        self.assertEqual(first_texts(["zz*zz"], (True,), 3), ["zzzz", "zzazz", "zzbzz"])

    def test_classes_that_no_text_has(self):
        for patterns, wanted in ((["*"], (False,)), (["a", "?"], (True, False)), (["*a*", "a*"], (False, True)),
                                 (["a", "b"], (True, True))):
            self.assertEqual(first_texts(patterns, wanted, 5), [])
            self.assertEqual(first_texts(patterns, wanted, 5, ["a"]), [])
            self.assertIsNone(first_text(patterns, wanted))
            self.assertIsNone(first_text(patterns, wanted, ["a"]))

    def test_classes_that_one_text_has(self):
        for count in range(1, 21):
            self.assertEqual(first_texts(["abc", "*"], (True, True), count), ["abc"])
        self.assertEqual(first_texts([""], (True,), 20), [""])
        self.assertEqual(first_texts([""], (True,), 20, ("",)), [])
        self.assertEqual(first_texts(["abcdefgh"], (True,), 2, ["abcdefg"]), ["abcdefgh"])

    def test_finite_classes(self):
        letters = list("abcdefghijklmnopqrstuvwxyz")
        self.assertEqual(first_texts(["?"], (True,), 20), letters[:20])
        self.assertEqual(first_texts(["?"], (True,), 20, letters[:20]), letters[20:])
        self.assertEqual(first_texts(["?"], (True,), 7, letters[20:]), letters[:7])
        self.assertEqual(first_texts(["?"], (True,), 6, letters[:20]), letters[20:])
        # The texts of length one and two that end in z, without two of them.
        self.assertEqual(first_texts(["?", "??", "*z"], (True, False, True), 20), ["z"])
        ends = [letter + "z" for letter in letters]
        self.assertEqual(first_texts(["?", "??", "*z"], (False, True, True), 20, ["az", "cz"]),
                         [text for text in ends if text not in ("az", "cz")][:20])

    def test_finite_class_with_gaps(self):
        patterns = ["b*", "*b", "?", "????*"]
        wanted = (True, True, True, False)
        self.assertEqual(first_texts(patterns, wanted, 20), ["b"])
        wanted = (True, True, False, False)
        self.assertEqual(first_texts(patterns, wanted, 20), ["bb"] + ["b" + x + "b" for x in LETTERS_16] +
                         ["b" + x + "b" for x in "qrs"])

    def test_long_texts_come_behind_short_ones(self):
        # The alphabetically first beginning leads to longer texts only.
        self.assertEqual(first_texts(["aaaa*", "c"], (False, True), 2), ["c"])
        patterns = ["aaaa*", "b*"]
        wanted = [text for text in texts_up_to(3) if class_by_hand(patterns, text) == (False, True)]
        self.assertEqual(first_texts(patterns, (False, True), 20), wanted[:20])
        self.assertEqual(first_texts(patterns, (True, False), 2), ["aaaa", "aaaaa"])

    def test_avoided_texts(self):
        but = ["", "a", "b", "zz", "zz", "d"]
        self.assertEqual(first_texts([], (), 3, but), ["c", "e", "f"])
        self.assertEqual(first_texts([], (), 3, tuple(but)), ["c", "e", "f"])
        self.assertEqual(first_text([], (), but), "c")
        self.assertEqual(first_text([], (), ("",)), "a")
        twenty = list(texts_up_to(1))[:20]
        self.assertEqual(first_texts(["*"], (True,), 20, twenty), list(texts_up_to(2))[20:40])

    def test_counts(self):
        self.assertEqual(first_texts(["?"], (True,), 0), [])
        self.assertEqual(first_texts(["?"], (True,), 0, ["a", "b"]), [])
        self.assertEqual(first_texts(["?"], (True,), 1), ["a"])
        self.assertEqual(first_texts(["b"], (False,), 20), ["", "a"] + list(texts_up_to(1))[3:21])

    def test_by_definition(self):
        texts = list(texts_up_to(3))
        for patterns in LISTS:
            rows = {}
            for text in texts:
                rows.setdefault(class_by_hand(patterns, text), []).append(text)
            for wanted in itertools.product((True, False), repeat=len(patterns)):
                row = rows.get(wanted, [])
                but = row[1:12:2] + row[3:5] + ["b", "zzz"]
                left = [text for text in row if text not in but]
                self.assertEqual(first_texts(patterns, wanted, 20), row[:20])
                self.assertEqual(first_texts(patterns, wanted, 12, but), left[:12])
                self.assertEqual(first_text(patterns, wanted), row[0] if row else None)
                self.assertEqual(first_text(patterns, wanted, but), left[0] if left else None)

    def test_states(self):
        none = (False,) * 10
        for count, but in ((0, ()), (1, ()), (20, ["a"]), (0, ["a"])):
            self.assert_fails(TooManyStates, None, first_texts, STATES_401, none, count, but)
            self.assert_fails(TooManyStates, None, first_texts, STATES_401, (True,) * 10, count, but)
        self.assert_fails(TooManyStates, None, first_text, STATES_401, none)
        self.assert_fails(TooManyStates, None, first_text, STATES_401, (True,) * 10, ("",))
        self.assertEqual(first_texts(STATES_400, none[:9], 3), ["", "a", "b"])
        self.assertEqual(first_text(STATES_400, (True,) * 4 + none[:5]), "abcdefghijklmnopqrstuvwx")

    def test_arguments_stay_and_lists_are_new(self):
        patterns, but = ["a", "?"], ["c"]
        found = first_texts(patterns, (False, True), 3, but)
        found.clear()
        self.assertEqual(first_texts(patterns, (False, True), 3, but), ["b", "d", "e"])
        self.assertEqual((patterns, but), (["a", "?"], ["c"]))


class FirstRows(TestCase):

    def test_examples(self):
        self.assertEqual(first_rows([], 2), [["", "a"]])
        self.assertEqual(first_rows(["a", "?"], 3), [["", "aa", "ab"], ["a"], ["b", "c", "d"]])

    def test_rows_of_first_texts(self):
        for patterns in LISTS:
            for count in (0, 1, 2, 20):
                rows = [first_texts(patterns, wanted, count) for wanted in all_classes(patterns)]
                self.assertEqual(first_rows(patterns, count), rows)

    def test_states(self):
        for count in (0, 1, 20):
            self.assert_fails(TooManyStates, None, first_rows, STATES_401, count)
        self.assertEqual(len(first_rows(STATES_400, 20)), 21)

    def test_lists_are_new(self):
        rows = first_rows(["*", ""], 0)
        self.assertEqual(rows, [[], []])
        rows[0].append("changed")
        rows.pop()
        self.assertEqual(rows, [["changed"]])
        self.assertEqual(first_rows(["*", ""], 0), [[], []])


class CheckPatterns(TestCase):

    def test_accepted(self):
        for patterns in LISTS + [STARS_4, PLAIN_12, ["?", "??", "???", "????"], ["?a", "b*"] + PLAIN_12, STATES_400]:
            before = list(patterns)
            self.assertIsNone(check_patterns(patterns))
            self.assertEqual(patterns, before)

    def test_too_many_patterns(self):
        for patterns in (STARS_4 + ["?"], STARS_4 + ["*"], ["?", "??", "???", "????", "?????"], PLAIN_12 + [""],
                         PLAIN_12 + ["abc"], PLAIN_12[:6] + STARS_4 + PLAIN_12[6:] + ["x"], PLAIN_12 + STARS_4 + ["x*"]):
            self.assert_fails(TooManyPatterns, None, check_patterns, patterns)

    def test_four_open_and_twelve_plain_patterns(self):
        self.assertIsNone(check_patterns(["?", "??", "???", "????"] + PLAIN_12))

    def test_too_many_states(self):
        self.assertIsNone(check_patterns(OPEN))
        self.assert_fails(TooManyStates, None, check_patterns, STATES_401)

    def test_too_many_classes(self):
        plain = [letter for letter in "efghijklm"]
        self.assertEqual(len(all_classes(STARS_4 + plain[:8])), 24)
        self.assertIsNone(check_patterns(STARS_4 + plain[:8]))
        self.assertEqual(len(all_classes(STARS_4 + plain)), 25)
        self.assert_fails(TooManyClasses, None, check_patterns, STARS_4 + plain)

    def test_first_error(self):
        many_states = OPEN + ["y" * 8, "z" * 8, "yz" * 4, "zy" * 4, "yyzz", "zzyy", "yyyz", "zzzy", "zyyz", "yzzy"]
        self.assert_fails(TooManyStates, None, all_classes, many_states)
        self.assert_fails(TooManyStates, None, check_patterns, many_states)
        self.assert_fails(TooManyPatterns, None, check_patterns, many_states + ["?"])
        self.assert_fails(TooManyPatterns, None, check_patterns, many_states + ["a", "b", "c"])
        many_classes = STARS_4 + [letter for letter in LETTERS_16[4:]]
        self.assert_fails(TooManyClasses, None, check_patterns, many_classes)
        self.assert_fails(TooManyPatterns, None, check_patterns, many_classes + ["?"])


if __name__ == "__main__":
    unittest.main()
