import unittest

from helper import NO_STRINGS, TestCase
from talkalike.errors import BadGoal
from talkalike.goals import check_goal, meets, patterns_of_goal

WORD = ("word", "ok")


def nested(depth, inside=WORD, words=("not",)):
    """A goal with this depth, the depth of what is inside included."""
    goal = inside
    for index in range(depth - 1):
        goal = (words[index % len(words)], goal)
    return goal


class CheckGoal(TestCase):

    def good(self, *goals):
        for goal in goals:
            self.assertIsNone(check_goal(goal))

    def bad(self, *goals):
        """These are no goals, and they are the place wherever they stand."""
        for goal in goals:
            self.assert_fails(BadGoal, goal, check_goal, goal)
            self.assert_fails(BadGoal, goal, check_goal, ("not", goal))
            self.assert_fails(BadGoal, goal, check_goal, ("and", WORD, ("or", ("new", 0), goal), goal, ()))

    def test_words(self):
        self.good(("word", "a"), ("word", "word"), ("word", "abcdefghijkl"))
        self.bad(("word", ""), ("word", "Ok"), ("word", "abcdefghijklm"), ("word", "a b"), ("word", "o?"))
        self.bad(*[("word", value) for value in NO_STRINGS])
        self.bad(("word",), ("word", "ok", "ok"))

    def test_indexes(self):
        for word, rest in (("matches", ("a*",)), ("asked", ()), ("new", ()), ("null", ())):
            self.good(*[(word, index) + rest for index in range(5)])
            self.bad(*[(word, index) + rest for index in (-1, 5, 6, 10 ** 9, True, False, None, "0", "a", "", (), [0], (0,))])
            self.bad((word,), (word, 0) + rest + (0,), (word, 0) + rest + ("a",), (word,) + rest + ("a", 0))

    def test_patterns(self):
        self.good(*[("matches", 0, pattern) for pattern in ("", "a", "?", "*", "a*b*c", "abcdefgh", "????????")])
        self.bad(*[("matches", 0, pattern) for pattern in ("***", "abcdefghi", "A", "a b", "-", "*a*b*")])
        self.bad(*[("matches", 0, value) for value in NO_STRINGS])
        self.bad(("matches", 0), ("matches", "a", 0), ("matches", "a"))

    def test_words_for_goals(self):
        self.good(("and",), ("or",), ("and", WORD), ("or", WORD, WORD, WORD), ("not", WORD), ("not", ("and",)))
        self.bad(("not",), ("not", WORD, WORD), ("not", WORD, ()))

    def test_other_values(self):
        self.bad((), ("never",), ("always",), ("AND",), ("", 0), ("same", 0, 1), (WORD,), (WORD, WORD), (None,), (0, 0), (True, 0), ([],), (["and"],))
        self.bad("word", "and", "", *NO_STRINGS)
        self.bad(["and"], ["word", "ok"], ["new", 0])

    def test_place_of_the_first_one(self):
        self.assert_fails(BadGoal, ("new", 5), check_goal, ("and", ("or", WORD, ("not", ("new", 5))), ("new", 6)))
        self.assert_fails(BadGoal, ("new", 6), check_goal, ("and", ("or", WORD, ("not", ("new", 4))), ("new", 6), ("new", 7)))
        # From the outside to the inside.
        self.assert_fails(BadGoal, ("not", ("new", 5), 1), check_goal, ("and", ("not", ("new", 5), 1)))
        self.assert_fails(BadGoal, ("never", ("new", 5)), check_goal, ("never", ("new", 5)))
        # Each goal completely before the next one.
        self.assert_fails(BadGoal, 5, check_goal, ("and", ("and", ("and", 5)), 6))
        self.assert_fails(BadGoal, 5, check_goal, ("or", ("or", ("or", WORD), 5), 6))

    def test_depth(self):
        for words in (("not",), ("and", "or"), ("not", "and")):
            self.good(*[nested(depth, words=words) for depth in range(1, 7)])
            self.good(nested(6, ("and",), words))
            for depth in (7, 8, 30):
                # The goal with six goals around it is the first one that is too deep.
                goal = nested(depth, words=words)
                inside = goal
                for _ in range(6):
                    inside = inside[1]
                self.assert_fails(BadGoal, inside, check_goal, goal)
        self.assert_fails(BadGoal, WORD, check_goal, ("and", nested(5, WORD), nested(6, WORD), 5))
        self.assert_fails(BadGoal, 5, check_goal, ("and", nested(5, WORD), 5, nested(6, WORD)))
        self.assert_fails(BadGoal, ("and", 7), check_goal, nested(7, ("and", 7)))
        self.assert_fails(BadGoal, 7, check_goal, nested(6, ("and", 7)))
        self.assert_fails(BadGoal, 7, check_goal, nested(5, ("and", 7)))

    def test_count(self):
        self.good(("and",) + (WORD,) * 19, ("or", ("and",) + (WORD,) * 9, ("and",) + (WORD,) * 8))
        for goal in (("and",) + (WORD,) * 20, ("and",) + (WORD,) * 50, ("or", ("and",) + (WORD,) * 9, ("and",) + (WORD,) * 9),
                     ("and", nested(5), nested(5), nested(5), nested(5))):
            self.assert_fails(BadGoal, goal, check_goal, goal)
        # Whatever is wrong inside comes before it.
        self.assert_fails(BadGoal, ("new", 5), check_goal, ("and",) + (WORD,) * 30 + (("new", 5),))
        self.assert_fails(BadGoal, WORD, check_goal, ("and",) + (WORD,) * 30 + (nested(6),))
        self.assert_fails(BadGoal, (), check_goal, ("and", ()) + (WORD,) * 30)


class Patterns(TestCase):

    def test_patterns(self):
        self.assert_same(patterns_of_goal(WORD), [])
        self.assert_same(patterns_of_goal(("word", "a")), [])
        for goal in (("asked", 0), ("new", 1), ("null", 2), ("and",), ("or",)):
            self.assert_same(patterns_of_goal(goal), [])
        self.assert_same(patterns_of_goal(("matches", 3, "a*")), ["a*"])
        goal = ("and", ("matches", 0, "b"), ("not", ("or", ("matches", 1, "a"), ("new", 0), ("matches", 2, ""))), ("matches", 0, "b"))
        self.assert_same(patterns_of_goal(goal), ["b", "a", "", "b"])
        patterns_of_goal(goal).clear()
        self.assert_same(patterns_of_goal(goal), ["b", "a", "", "b"])


ASK = (0, "put", "ann", 3, -2)


class Meets(TestCase):

    def meets(self, goal, answer, request=ASK, given=5):
        self.assertIs(meets(goal, request, given, answer), True)
        self.assertIs(meets(("not", goal), request, given, answer), False)

    def fails(self, goal, answer, request=ASK, given=5):
        self.assertIs(meets(goal, request, given, answer), False)
        self.assertIs(meets(("not", goal), request, given, answer), True)

    def test_examples_of_the_document(self):
        self.meets(("and", ("word", "made"), ("new", 0)), ("made", 2, "ann"), ("new", "ann"), 2)
        self.fails(("asked", 1), ("made", 2, "bob"), ("new", "ann"), 2)

    def test_word(self):
        self.meets(WORD, ("ok",))
        self.meets(WORD, ("ok", "no"))
        self.fails(WORD, ("no", "ok"))
        self.fails(("word", "o"), ("ok",))

    def test_matches(self):
        answer = ("ok", "ann", 7, None, "", "b")
        self.meets(("matches", 0, "a*"), answer)
        self.meets(("matches", 3, ""), answer)
        self.meets(("matches", 4, "?"), answer)
        for index, pattern in ((0, "a"), (1, "*"), (2, "*"), (2, ""), (3, "?"), (4, "??")):
            self.fails(("matches", index, pattern), answer)
        self.fails(("matches", 1, "*"), ("ok", "a"))
        self.fails(("matches", 0, "ok"), ("ok",))
        self.fails(("matches", 0, "*"), ("ok",))

    def test_asked(self):
        for value in ("ann", 3, -2):
            self.meets(("asked", 0), ("ok", value))
            self.meets(("asked", 3), ("ok", 1, 1, 1, value))
            self.fails(("asked", 1), ("ok", value))
            self.fails(("asked", 0), ("ok", "bob", value))
        for value in ("bob", "", "put", 4, -1, 0, None):
            self.fails(("asked", 0), ("ok", value))
        self.fails(("asked", 0), ("ok",))
        # The id of the object is no value of the request, but may stand among them too.
        self.fails(("asked", 0), ("ok", 0), (0, "get"))
        self.fails(("asked", 0), ("ok", 4), (4, "put", "a"))
        self.meets(("asked", 0), ("ok", 4), (4, "put", 4))
        # The same holds for openings.
        self.fails(("asked", 0), ("ok", 0), ("new", "ann"), 0)
        self.meets(("asked", 1), ("ok", 0, "ann"), ("new", "ann"), 0)
        self.fails(("asked", 1), ("ok", 0, "new"), ("new", "ann"), 0)
        self.meets(("asked", 1), ("ok", 2, 1), ("new", 1), 2)

    def test_new(self):
        answer = ("ok", 5, 6, 4, -1, "a")
        for index, expected in enumerate([True, True, False, False, False]):
            (self.meets if expected else self.fails)(("new", index), answer)
        self.fails(("new", 0), ("ok", None))
        self.fails(("new", 0), ("ok",))
        self.fails(("new", 4), ("ok", 5, 6, 7, 8))
        self.meets(("new", 4), ("ok", 5, 6, 7, 8, 5))
        self.meets(("new", 0), ("ok", 0), ("new",), 0)
        self.meets(("new", 1), ("ok", 3, 4), ("new",), 3)
        self.fails(("new", 1), ("ok", 3, 2), ("new",), 3)

    def test_null(self):
        self.meets(("null", 0), ("ok", None))
        self.meets(("null", 2), ("ok", 1, "a", None))
        self.fails(("null", 0), ("ok", ""))
        self.fails(("null", 0), ("ok", 0))
        self.fails(("null", 0), ("ok",))
        self.fails(("null", 1), ("ok", None))

    def test_goals_inside(self):
        answer = ("ok", 5)
        yes, no = ("new", 0), ("null", 0)
        self.meets(("and",), answer)
        self.fails(("or",), answer)
        self.meets(("and", yes, WORD), answer)
        self.fails(("and", yes, no, WORD), answer)
        self.meets(("or", no, no, yes), answer)
        self.fails(("or", no, no), answer)
        self.meets(("not", ("not", yes)), answer)
        self.meets(("and", ("or", no, yes), ("not", ("and", yes, no))), answer)

    def test_no_answer(self):
        for goal in (WORD, ("and",), ("or",), ("not", WORD), ("not", ("and",)), ("null", 0), ("not", ("null", 0))):
            self.assertIs(meets(goal, ASK, 5, None), False)


if __name__ == "__main__":
    unittest.main()
