import itertools
import unittest

from helper import ALWAYS, KEEP, Dice, TestCase, receipts
from talkalike.errors import BadPairs, BadRequest
from talkalike.exchange import exchange, exchanged_answer
from talkalike.house import run_talk
from talkalike.services import Service, patterns_of

KINDS = [("new", "name"), ("put", "key", "text"), ("get",)]


def teller():
    """Has the pattern a* and tells the texts "told" and "kept", by an answer and by a turn."""
    return Service(["open"], ["note"], KINDS, [
        (None, "new", ("not", ("matches", "name", "a*")), ("ok", ("value", "name")), (("text", "kept"),), "open"),
        ("open", "put", ALWAYS, ("ok", ("text", "told"), ("value", "key")), (("value", "text"),), "open"),
        ("open", "get", ALWAYS, ("got", ("value", "note"), ("fresh", 0)), (KEEP,), "open"),
    ])


class Case(TestCase):

    def exchanged(self, talk, pairs, expected):
        service, before = teller(), (list(talk), list(pairs))
        found = exchange(service, talk, pairs)
        self.assert_same(found, expected)
        self.assertEqual((talk, pairs), before)
        self.assertIsNot(found, talk)
        self.assertEqual(exchange(service, found, pairs), talk)

    def fails(self, place, pairs, talk=()):
        self.assert_fails(BadPairs, place, exchange, teller(), list(talk), list(pairs))


class Talks(Case):

    def test_texts(self):
        self.exchanged([("new", "b"), (0, "put", "b", "c"), (0, "put", "d", "bb")], [("b", "c")],
                       [("new", "c"), (0, "put", "c", "b"), (0, "put", "d", "bb")])
        self.exchanged([("new", "ab"), (0, "put", "a", "")], [("ab", "a"), ("", "z")], [("new", "a"), (0, "put", "ab", "z")])

    def test_ids(self):
        self.exchanged([("new", -1), (0, "put", -2, -1), (0, "put", -3, 0)], [(-1, -2)],
                       [("new", -2), (0, "put", -1, -2), (0, "put", -3, 0)])
        self.exchanged([(-1, "put", -1, -7), (-7, "get"), (-2, "get")], [(-7, -1)], [(-7, "put", -7, -1), (-1, "get"), (-2, "get")])

    def test_the_object(self):
        """The id of the object and the values are exchanged at once."""
        self.exchanged([(-1, "get"), (-2, "put", -1, -2), (0, "get")], [(-1, -2)], [(-2, "get"), (-1, "put", -2, -1), (0, "get")])

    def test_all_pairs_at_once(self):
        self.exchanged([(-1, "put", "b", "c"), (-2, "put", "d", "e"), (-3, "put", -4, -3)],
                       [("b", "c"), (-1, -2), ("d", "e"), (-3, -4)],
                       [(-2, "put", "c", "b"), (-1, "put", "e", "d"), (-4, "put", -3, -4)])

    def test_names_of_kinds_stay(self):
        self.exchanged([("new", "new"), (0, "put", "get", "put"), (0, "get")], [("new", "get"), ("put", "b")],
                       [("new", "get"), (0, "put", "new", "b"), (0, "get")])

    def test_no_pairs_and_no_talk(self):
        talk = [("new", "a"), (0, "put", -1, "")]
        self.exchanged(talk, [], talk)
        self.exchanged([], [("b", "c")], [])
        self.exchanged(talk, [("x", "y"), (-8, -9)], talk)

    def test_ids_that_were_not_given(self):
        self.exchanged([(9, "put", -1, 7), ("new", 3)], [(-1, -2)], [(9, "put", -2, 7), ("new", 3)])

    def test_new_list(self):
        talk = [("new", "b")]
        exchange(teller(), talk, []).append("changed")
        exchange(teller(), talk, [("b", "c")]).append("changed")
        self.assertEqual(talk, [("new", "b")])


class BadOnes(Case):

    def test_texts_that_a_rule_tells(self):
        for text in ("told", "kept"):
            self.fails(0, [(text, "b")])
            self.fails(0, [("b", text)])
        self.fails(0, [("told", "kept")])
        # What another service tells is a text like others.
        self.assertEqual(exchange(receipts(), [("new",), (0, "claim", "told")], [("told", "b")]), [("new",), (0, "claim", "b")])

    def test_texts_that_one_pattern_parts(self):
        for one, other in (("a", "b"), ("", "a"), ("abc", "bc"), ("ba", "ab")):
            self.fails(0, [(one, other)])
            self.fails(0, [(other, one)])

    def test_ids_from_0_on(self):
        for pair in ((0, 1), (-1, 0), (0, -1), (3, -3), (-3, 10 ** 30)):
            self.fails(0, [pair])

    def test_a_text_and_an_id(self):
        for pair in (("b", -1), (-1, "b"), ("", 0), (0, "")):
            self.fails(0, [pair])

    def test_equal_values(self):
        for value in ("b", "", "told", -1, 0):
            self.fails(0, [(value, value)])

    def test_a_value_in_two_pairs(self):
        for pair in (("b", "d"), ("d", "b"), ("c", "d"), ("d", "c"), ("b", "c"), ("c", "b")):
            self.fails(1, [("b", "c"), pair])
            self.fails(2, [("b", "c"), (-1, -2), pair])
        for pair in ((-1, -3), (-3, -1), (-2, -3), (-3, -2), (-2, -1)):
            self.fails(1, [(-1, -2), pair])
        # A pair that is not exchangeable is not an earlier pair: it is the first bad one.
        self.fails(0, [("a", "b"), ("b", "c")])

    def test_first_bad_pair(self):
        good = [("b", "c"), (-1, -2), ("d", "e")]
        for count in range(4):
            self.fails(count, good[:count] + [("told", "f"), ("b", "c"), (0, 1)])
            self.fails(count, good[:count] + [(0, 1)] + good[count:])

    def test_bad_requests_come_first(self):
        for talk, place in (([()], 0), ([("new", "a"), ("new",)], 1), ([("new", "A")], 0), ([("new", "b"), (0, "get"), (0, "take")], 2)):
            for pairs in ([], [(0, 1)], [("b", "c"), ("b", "c")]):
                self.assert_fails(BadRequest, place, exchange, teller(), talk, pairs)
        self.fails(0, [(0, 1)], [("new", "b"), (9, "get")])


class Answers(TestCase):

    def test_example(self):
        self.assert_same(exchanged_answer(("made", 0, "ann", -1), [("ann", "eve"), (-1, -7)]), ("made", 0, "eve", -7))

    def test_answers(self):
        pairs = [("b", "c"), (-1, -2)]
        for answer, expected in ((("ok",), ("ok",)), (("b", "b", "c", -2), ("b", "c", "b", -1)), (("ok", None, 3, "d"), ("ok", None, 3, "d")),
                                 (("c", -1, -2), ("c", -2, -1)), (None, None)):
            self.assert_same(exchanged_answer(answer, pairs), expected)
            self.assert_same(exchanged_answer(expected, pairs), answer)
            self.assert_same(exchanged_answer(answer, []), answer)
        self.assertEqual(pairs, [("b", "c"), (-1, -2)])

    def test_refused(self):
        self.assertIsNone(exchanged_answer(None, []))
        self.assertIsNone(exchanged_answer(None, [("b", "c")]))


class Rolled(unittest.TestCase):

    def test_exchanged_talks_have_the_exchanged_answers(self):
        """Point 5.8, for the pairs of a few values, taken alone and two by two."""
        values, changed = ["", "a", "b", "bb", "z", "zz", -1, -2, -5], 0
        for seed in range(120):
            dice = Dice(seed)
            service = dice.service()
            talk = dice.talk(service, 8)
            answers = run_talk(service, talk)
            self.assertLessEqual(len(patterns_of([service])), 20)
            good = []
            for pair in itertools.combinations(values, 2):
                try:
                    exchange(service, talk, [pair])
                    good.append([pair])
                except BadPairs:
                    pass
            for one, other in itertools.combinations(list(good), 2):
                if not set(one[0]) & set(other[0]):
                    good.append(one + other)
            for pairs in good:
                found = exchange(service, talk, pairs)
                changed += found != talk
                self.assertEqual(run_talk(service, found), [exchanged_answer(answer, pairs) for answer in answers])
                self.assertEqual(exchange(service, found, pairs), talk)
        self.assertGreater(changed, 300)


if __name__ == "__main__":
    unittest.main()
