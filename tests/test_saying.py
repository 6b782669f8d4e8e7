import unittest

from helper import (ALWAYS, CLEAR, KEEP, OPEN, STATES_401, Dice, TestCase, first_by_hand, locks, receipts, run_by_hand, texts_of_talk,
                    thousand)
from talkalike.errors import BadGoal, TooManyClasses, TooManyKinds, TooManyPatterns, TooManyStates
from talkalike.goals import check_goal, meets
from talkalike.saying import saying
from talkalike.services import Service

KINDS = [("new",), ("put", "key"), ("get",)]
OPENING = (None, "new", ALWAYS, ("ok",), (CLEAR,), "on")
ECHO = ("on", "put", ALWAYS, ("ok", ("value", "key")), (KEEP,), "on")


def service_of(*rules, kinds=KINDS, registers=("item",)):
    return Service(["on", "off"], list(registers), kinds, list(rules))


def asking(*patterns):
    return [("on", "put", ("matches", "key", pattern), ("ok",), (KEEP,), "on") for pattern in patterns]


def goal_of(dice, depth=3):
    """A rolled goal."""
    inside = ["and", "and", "or", "not"] * (depth > 1)
    word = dice.dice.choice(["word", "matches", "asked", "new", "null"] + inside * (1 + (depth == 3)))
    if word in ("and", "or"):
        return (word,) + tuple(goal_of(dice, depth - 1) for _ in range(dice.dice.choice([1, 2, 2, 3])))
    if word == "not":
        return word, goal_of(dice, depth - 1)
    if word == "word":
        return word, dice.dice.choice(["ok", "no"])
    index = dice.dice.choice([0, 0, 1, 1, 2])
    return (word, index) + ((dice.dice.choice(["", "a", "?", "*", "b*"]),) if word == "matches" else ())


class Saying(TestCase):

    def says(self, service, goal, talk, answer):
        self.assert_same(saying(service, goal), (talk, answer))
        self.assertEqual(run_by_hand(service, talk)[-1], answer)

    def never(self, service, *goals):
        for goal in goals:
            self.assertIsNone(saying(service, goal))

    def test_nothing_meets_it(self):
        self.never(receipts(), ("word", "never"), ("asked", 0), ("null", 0), ("matches", 0, "*"), ("or",), ("not", ("and",)), ("new", 1))
        self.never(service_of(), ("and",), ("not", ("word", "ok")), ("not", ("or",)))
        # The id of the object is not a value of the request that is sent to it.
        own = service_of(OPENING, ("on", "get", ALWAYS, ("got", ("value", "self")), (KEEP,), "on"))
        self.never(own, ("asked", 0))
        # An opening has no value that is known.
        self.never(service_of(OPENING), ("and", ("word", "ok"), ("not", ("new", 0))))

    def test_first_opening(self):
        self.says(receipts(), ("and",), [("new",)], ("ok", 0))
        self.says(receipts(), ("new", 0), [("new",)], ("ok", 0))
        self.says(receipts(), ("not", ("matches", 0, "*")), [("new",)], ("ok", 0))
        self.says(locks(), ("asked", 1), [("new", "")], ("made", 0, ""))
        self.says(locks(), ("matches", 1, "?b"), [("new", "ab")], ("made", 0, "ab"))
        self.says(locks(), ("and", ("asked", 1), ("not", ("matches", 1, "*"))), [("new", -1)], ("made", 0, -1))

    def test_several_requests(self):
        self.says(receipts(), ("word", "receipt"), [("new",), (0, "close")], ("receipt", 1))
        self.says(receipts(), ("word", "claimed"), [("new",), (0, "close"), (0, "claim", 1)], ("claimed",))
        self.says(receipts(), ("not", ("or", ("word", "ok"), ("word", "receipt"))),
                  [("new",), (0, "close"), (0, "claim", 1)], ("claimed",))
        self.says(locks(), ("and", ("word", "lock"), ("not", ("new", 0))), [("new", ""), (0, "show"), (0, "show")], ("lock", 1, 3))
        self.says(locks(), ("null", 0), [("new", ""), (0, "show"), (0, "take", 1), (0, "show")], ("lock", None, 3))

    def test_asked(self):
        storing = ("on", "put", ("empty", "item"), ("ok",), (("value", "key"),), "on")
        telling = ("on", "put", ALWAYS, ("told", ("value", "item")), (KEEP,), "on")
        service = service_of(OPENING, storing, telling)
        self.says(service, ("asked", 0), [("new",), (0, "put", ""), (0, "put", "")], ("told", ""))
        self.says(service, ("and", ("word", "told"), ("not", ("asked", 0))), [("new",), (0, "put", ""), (0, "put", "a")], ("told", ""))
        self.says(service, ("and", ("asked", 0), ("not", ("matches", 0, "*"))), [("new",), (0, "put", -1), (0, "put", -1)], ("told", -1))
        # None of the rules names the value, yet the goal asks for it.
        own = service_of(OPENING, ("on", "put", ALWAYS, ("got", ("value", "self")), (KEEP,), "on"))
        self.says(own, ("and", ("word", "got"), ("asked", 0)), [("new",), (0, "put", 0)], ("got", 0))
        telling = ("on", "put", ALWAYS, ("got", ("text", "zz")), (KEEP,), "on")
        self.says(service_of(OPENING, telling), ("asked", 0), [("new",), (0, "put", "zz")], ("got", "zz"))

    def test_made_up_ids_and_texts(self):
        kinds = [("new",), ("put", "key", "name"), ("get",)]
        rule = ("on", "put", ("not", ("same", "key", "name")), ("ok", ("value", "key"), ("value", "name")), (KEEP,), "on")
        service = service_of(OPENING, rule, kinds=kinds)
        self.says(service, ("and", ("asked", 0), ("asked", 1)), [("new",), (0, "put", "", "a")], ("ok", "", "a"))
        no_texts = ("not", ("or", ("matches", 0, "*"), ("matches", 1, "*"), ("new", 0)))
        self.says(service, no_texts, [("new",), (0, "put", -1, -2)], ("ok", -1, -2))
        self.never(service, ("and", no_texts, ("new", 1)))
        self.says(service, ("and", ("matches", 0, "b?"), ("matches", 1, "b?")), [("new",), (0, "put", "ba", "bb")], ("ok", "ba", "bb"))
        self.never(service, ("and", ("matches", 0, "b"), ("matches", 1, "b")))

    def test_patterns_of_the_goal_count(self):
        service = service_of(OPENING, ECHO)
        for pattern, text in (("", ""), ("?", "a"), ("z", "z"), ("?b*", "ab"), ("*zz*", "zz")):
            self.says(service, ("matches", 0, pattern), [("new",), (0, "put", text)], ("ok", text))
        self.says(service, ("and", ("matches", 0, "*a*"), ("matches", 0, "*b*"), ("not", ("matches", 0, "??"))),
                  [("new",), (0, "put", "aab")], ("ok", "aab"))

    def test_bad_goals(self):
        for goal in (("never",), ("new", 5), 5, [], ()):
            self.assert_fails(BadGoal, goal, saying, receipts(), goal)
        self.assert_fails(BadGoal, ("null", -1), saying, receipts(), ("and", ("word", "ok"), ("null", -1), 5))
        # They come before what is too large.
        self.assert_fails(BadGoal, ("never",), saying, thousand(True), ("never",))
        self.assert_fails(BadGoal, ("never",), saying, service_of(*asking(*"abcdefghijklm")), ("never",))

    def test_too_large(self):
        self.assert_fails(TooManyPatterns, None, saying, service_of(*asking(*"abcdefghijklm")), ("and",))
        self.assert_fails(TooManyPatterns, None, saying, service_of(*asking(*"abcdefghijkl")), ("matches", 0, "m"))
        self.assert_fails(TooManyPatterns, None, saying, receipts(), ("or", *[("matches", 0, letter) for letter in "abcdefghijklm"]))
        self.assert_fails(TooManyPatterns, None, saying, service_of(*asking("?", "??", "*a")), ("or", ("matches", 0, "?a"), ("matches", 1, "*")))
        self.assert_fails(TooManyStates, None, saying, service_of(*asking(*STATES_401)), ("and",))
        self.assert_fails(TooManyStates, None, saying, service_of(*asking(*STATES_401[:-1])), ("matches", 0, STATES_401[-1]))
        self.assert_fails(TooManyClasses, None, saying, service_of(*asking("*a*", "*b*", "*c*", "*d*")),
                          ("or", *[("matches", 0, letter) for letter in "efghijklm"]))
        self.assert_fails(TooManyKinds, None, saying, thousand(True), ("word", "ok"))
        self.assert_fails(TooManyKinds, None, saying, thousand(True), ("word", "never"))
        # Equal patterns count once, also if they are patterns of the service.
        self.never(service_of(*asking(*"abcdefghijkl")), ("or", *[("matches", 0, letter) for letter in "aabbccddee"]))
        self.never(service_of(*asking(*OPEN)), ("or", *[("matches", 0, pattern) for pattern in OPEN]))

    def test_patterns_of_the_goal_part_kinds(self):
        kinds = [("new",), ("one", "key"), ("two", "key"), ("three", "key")]
        rules = [(None, "new", ALWAYS, ("ok",), (CLEAR,) * 3, "on")]
        for index, (name, _) in enumerate(kinds[1:]):
            rules.append(("on", name, ALWAYS, ("ok", ("value", "key")),
                          tuple(("value", "key") if at == index else KEEP for at in range(3)), "on"))
        service = service_of(*rules, kinds=kinds, registers=["a", "b", "c"])
        self.says(service, ("matches", 0, "a"), [("new",), (0, "one", "a")], ("ok", "a"))
        self.assert_fails(TooManyKinds, None, saying, service, ("or", *[("matches", 0, letter) for letter in "abcdefghijkl"]))

    def test_against_all_small_talks(self):
        lengths = {}
        for seed in range(120):
            dice = Dice(seed)
            service = dice.small(1)
            goal = goal_of(dice)
            check_goal(goal)
            found = saying(service, goal)
            most = min(3, len(found[0])) if found else 2
            texts = {"", "a", "b"} | texts_of_talk(found[0] if found else [])
            expected = first_by_hand(service, service, texts, most,
                                     lambda request, given, answer, other: answer is not None and meets(goal, request, given, answer))
            if found is None or len(found[0]) > most:
                self.assertIsNone(expected)
            else:
                self.assertEqual(found, expected[:2])
            lengths[found and len(found[0])] = lengths.get(found and len(found[0]), 0) + 1
        self.assertGreater(min(lengths[None], lengths[1], lengths[2], lengths[3]), 1)

    def test_new_list(self):
        saying(receipts(), ("and",))[0].clear()
        self.says(receipts(), ("and",), [("new",)], ("ok", 0))


if __name__ == "__main__":
    unittest.main()
