import copy
import functools
import itertools
import random
import unittest

from helper import STATES_400, STATES_401, TestCase, fits, texts_up_to
from talkalike.errors import BadPair, TooManyStates
from talkalike.pairs import alike, check_pair, example_of, kind_of, known_after, pair_key
from talkalike.services import Service

FIRST = Service(["open", "closed"], ["owner", "note"], [("new",), ("get",)], [])
SECOND = Service(["closed", "far", "open"], ["token"], [("new",), ("get",)], [])
BARE = Service(["open"], [], [("new",), ("get",)], [])
GOOD = (("open", ["a", -1]), ("far", [("own", 0)]))
PATTERNS = ["a*", "?", "b"]
HELD = [None, "", "a", "b", "c", "ab", "bb", "ac", 0, 1, 2, -1, ("own", 0), ("own", 1), ("own", 5)]
SHORT = list(texts_up_to(2, "abcdefgh"))


def sort_of(value):
    """Whether a register holds nothing, a text, the id 0, another known id, or an own id."""
    if value is None or value == 0:
        return value
    return {str: "text", int: "known", tuple: "own"}[type(value)]


def alike_by_hand(patterns, one, other):
    """Point 6.2, clause by clause."""
    if [item[0] for item in one] != [item[0] for item in other]:
        return False
    left, right = one[0][1] + one[1][1], other[0][1] + other[1][1]
    for value, new in zip(left, right):
        if sort_of(value) != sort_of(new):
            return False
        if type(value) is str and [fits(one, value) for one in patterns] != [fits(one, new) for one in patterns]:
            return False
    border = len(one[0][1])
    for at, behind in itertools.combinations(range(len(left)), 2):
        same, again = left[at] == left[behind], right[at] == right[behind]
        if "own" == sort_of(left[at]) == sort_of(left[behind]) and at < border <= behind:
            continue
        if same != again:
            return False
    return True


def compare_by_hand(first, second, one, other):
    """Point 6.4: below 0 if the one pair comes first."""
    def rank(value):
        """The index of what a register holds in a list of all such in order."""
        order = [None] + SHORT + [-1, -2, -3, -4, 0, 1, 2, 3, 4, 5, 6] + [("own", k) for k in range(12)]
        return [type(held) is type(value) and held == value for held in order].index(True)
    places = [(service.stations.index(a[0]), service.stations.index(b[0])) for service, a, b in zip((first, second), one, other)]
    places += [(rank(a), rank(b)) for a, b in zip(one[0][1] + one[1][1], other[0][1] + other[1][1])]
    for a, b in places:
        if a != b:
            return a - b
    return 0


def some_pairs(count, seed=3):
    dice = random.Random(seed)
    pairs = []
    for _ in range(count):
        held = [dice.choice(HELD) for _ in range(3)]
        pairs.append(((dice.choice(["open", "open", "closed"]), held[:2]), (dice.choice(["open", "open", "far"]), held[2:])))
    return pairs


class Check(TestCase):

    def accepted(self, pair, first=FIRST, second=SECOND):
        before = copy.deepcopy(pair)
        self.assertIsNone(check_pair(first, second, pair, 0))
        self.assertEqual(pair, before)

    def fails(self, pair, first=FIRST, second=SECOND, place=7):
        self.assert_fails(BadPair, place, check_pair, first, second, pair, place)

    def test_pairs(self):
        for held in (None, "", "a", "z" * 500, 0, 1, -1, 10 ** 40, -10 ** 40, ("own", 0), ("own", 1), ("own", 10 ** 40)):
            self.accepted((("open", [held, None]), ("closed", ["a"])))
            self.accepted((("closed", [None, held]), ("far", [held])))
        self.accepted((("open", []), ("open", [])), BARE, BARE)
        self.accepted((("open", []), ("far", [1])), BARE)

    def test_places(self):
        for place in (0, 3, None):
            self.fails((), place=place)

    def test_no_tuple_of_two(self):
        for pair in ((), GOOD[:1], GOOD + GOOD[:1], GOOD * 2, list(GOOD), [], [GOOD], (GOOD,), GOOD[0]):
            self.fails(pair)

    def test_no_objects(self):
        for item in ("open", "", 0, -1, 5, True, False, None, (), [], ("open",), ("open", ["a", 1], []), ["open", ["a", 1]],
                     (["a", 1], "open"), ("open", "ab"), ("open", ("a", 1)), ("open", None), ("open", 2), ((), ()), "ab"):
            self.fails((item, GOOD[1]))
        for item in ("open", (), ("far",), ["far", ["a"]], ("far", ("a",)), ("far", "a"), None, ("far", ["a"], "far")):
            self.fails((GOOD[0], item))

    def test_stations(self):
        for station in ("far", "Open", "", "opened", None, 0, 1, True, False, [], ["open"], ("open",), ("open", ["a", 1]), ()):
            self.fails(((station, ["a", 1]), GOOD[1]))
        for station in ("lost", None, True, ["far"], ()):
            self.fails((GOOD[0], (station, ["a"])))

    def test_each_object_is_one_of_its_own_service(self):
        self.fails(GOOD, SECOND, FIRST)
        self.fails(GOOD[::-1])
        self.accepted(GOOD[::-1], SECOND, FIRST)

    def test_numbers_of_registers(self):
        for count in (0, 1, 3, 4):
            self.fails((("open", ["a"] * count), GOOD[1]))
        for count in (0, 2, 3):
            self.fails((GOOD[0], ("far", [None] * count)))
        self.fails((("open", [None]), ("open", [])), BARE, BARE)
        self.fails((("open", []), ("open", [None])), BARE, BARE)

    def test_what_no_register_can_hold(self):
        for value in (True, False, "A", "a b", "a1", "a?", "\n"):
            self.fails((("open", [value, None]), GOOD[1]))
            self.fails((("open", [None, value]), GOOD[1]))
            self.fails((GOOD[0], ("far", [value])))
        for value in ((), ("own",), ("own", -1), ("own", -10 ** 40), ("own", True), ("own", False), ("own", "a"), ("own", None),
                      ("own", 0, 0), ("Own", 0), ("fresh", 0), (0, "own"), ("own", ("own", 0)), (0,), ("a",), (None,), ("own", [0]),
                      ["own", 0], [], [0], ["a"], [None], [("own", 0)], (True, 0), ((), ())):
            self.fails((("open", [value, None]), GOOD[1]))
            self.fails((GOOD[0], ("far", [value])))


class Kinds(TestCase):

    def test_can_be_keys(self):
        for pair in some_pairs(50):
            kind = kind_of(PATTERNS, pair)
            self.assertIs(type(kind), tuple)
            self.assertEqual({kind: 1}[kind_of(PATTERNS, pair)], 1)

    def test_against_the_definition(self):
        pairs = some_pairs(700)
        found = 0
        for patterns in ([], PATTERNS):
            kinds = [kind_of(patterns, pair) for pair in pairs]
            for one, other in itertools.combinations(range(len(pairs)), 2):
                expected = alike_by_hand(patterns, pairs[one], pairs[other])
                self.assertEqual(kinds[one] == kinds[other], expected, (pairs[one], pairs[other]))
                found += expected
            for one, other in itertools.combinations(range(60), 2):
                self.assertIs(alike(patterns, pairs[one], pairs[other]), kinds[one] == kinds[other])
        self.assertGreater(found, 1000)

    def alike_pairs(self, held, behind, other, other_behind, patterns=()):
        """The two pairs have these registers."""
        return alike(list(patterns), (("open", list(held)), ("open", list(behind))), (("open", list(other)), ("open", list(other_behind))))

    def test_stations(self):
        for one, other in itertools.product(itertools.product(("open", "closed"), repeat=2), repeat=2):
            self.assertIs(alike([], ((one[0], []), (one[1], [])), ((other[0], []), (other[1], []))), one == other)

    def test_forms(self):
        values = [None, "a", 0, 5, ("own", 0)]
        for one, other in itertools.product(values, repeat=2):
            self.assertIs(self.alike_pairs([one], [], [other], []), one is other)
            self.assertIs(self.alike_pairs([], [one], [], [other]), one is other)

    def test_classes(self):
        self.assertIs(self.alike_pairs(["a"], [], ["b"], [], ["a"]), False)
        self.assertIs(self.alike_pairs(["a"], [], ["b"], [], ["?"]), True)
        self.assertIs(self.alike_pairs(["c", "d"], [], ["d", "c"], [], ["a"]), True)
        self.assertIs(self.alike_pairs(["a", "d"], [], ["d", "a"], [], ["a"]), False)

    def test_same_text(self):
        """In one object, and in both."""
        self.assertIs(self.alike_pairs(["a", "a"], [], ["b", "b"], []), True)
        self.assertIs(self.alike_pairs(["a", "a"], [], ["b", "c"], []), False)
        self.assertIs(self.alike_pairs(["a"], ["a"], ["b"], ["b"]), True)
        self.assertIs(self.alike_pairs(["a"], ["a"], ["b"], ["c"]), False)
        self.assertIs(self.alike_pairs(["a", "b"], ["a"], ["a", "b"], ["b"]), False)

    def test_known_ids(self):
        self.assertIs(self.alike_pairs([5], [5], [-1], [-1]), True)
        self.assertIs(self.alike_pairs([5], [5], [5], [4]), False)
        self.assertIs(self.alike_pairs([0], [0], [0], [0]), True)
        self.assertIs(self.alike_pairs([0], [0], [1], [1]), False)
        self.assertIs(self.alike_pairs([0], [3], [4], [0]), False)
        self.assertIs(self.alike_pairs([3, 4], [3], [3, 4], [4]), False)

    def test_own_ids(self):
        """Those of the one object are never the same as those of the other."""
        own, other = ("own", 0), ("own", 1)
        self.assertIs(self.alike_pairs([own, own], [], [other, other], []), True)
        self.assertIs(self.alike_pairs([own, own], [], [own, other], []), False)
        self.assertIs(self.alike_pairs([], [own, own], [], [own, other]), False)
        self.assertIs(self.alike_pairs([own], [own], [own], [other]), True)
        self.assertIs(self.alike_pairs([own, other], [own], [own, other], [other]), True)
        self.assertIs(self.alike_pairs([own, other], [], [other, own], []), True)

    def test_many_states_are_no_matter(self):
        self.assertIs(alike(STATES_401, GOOD, GOOD), True)

    def test_arguments_stay(self):
        pair, patterns = (("open", ["a", ("own", 3)]), ("open", [0, 5])), ["a"]
        kind_of(patterns, pair)
        alike(patterns, pair, pair)
        self.assertEqual((pair, patterns), ((("open", ["a", ("own", 3)]), ("open", [0, 5])), ["a"]))


class Examples(TestCase):

    def example(self, held, behind, expected, expected_behind, patterns=()):
        pair = (("open", list(held)), ("closed", list(behind)))
        before = copy.deepcopy(pair)
        self.assert_same(example_of(list(patterns), pair), (("open", expected), ("closed", expected_behind)))
        self.assertEqual(pair, before)

    def test_of_the_document(self):
        pair = (("open", ["pen", -3, 7]), ("open", [-3, ("own", 4), "ink"]))
        self.assert_same(example_of([], pair), (("open", ["", 1, 2]), ("open", [1, ("own", 0), "a"])))
        self.assertIs(alike([], pair, (("open", ["a", 5, 0]), ("open", [5, ("own", 1), "b"]))), False)

    def test_texts(self):
        self.example(["x", "y"], ["x", "z", "y"], ["", "a"], ["", "b", "a"])
        self.example(["a", "x", "aa"], ["", "ab", "x"], ["a", "", "aa"], ["b", "ab", ""], ["a*"])
        self.example(["ab", "xy", "a"], ["b", "aa", "xx"], ["aa", "", "a"], ["b", "ab", "ba"], ["a*", "?"])

    def test_texts_of_finite_classes(self):
        self.example(["told", "b"], ["told"], ["told", ""], ["told"], ["told"])
        self.example(["z", "y", "x"], ["w", "v", "u"], ["a", "b", "c"], ["d", "e", "f"], ["?"])
        self.example(["zzz", "y", ""], [], ["aa", "a", ""], [], ["?", ""])

    def test_six_texts_of_one_class(self):
        self.example(["f", "e", "d"], ["c", "b", "a"], ["", "a", "b"], ["c", "d", "e"])
        self.example(["zf", "ze", "zd"], ["zc", "zb", "za"], ["z", "za", "zb"], ["zc", "zd", "ze"], ["z*"])

    def test_known_ids(self):
        self.example([7, -3, 0], [-3, 9, 7], [1, 2, 0], [2, 3, 1])
        self.example([0, 0, 2], [1, 0, 2], [0, 0, 1], [2, 0, 1])

    def test_own_ids(self):
        own = [("own", k) for k in range(9)]
        self.example([own[7], own[2], own[7]], [own[2], own[7], own[0]], [own[0], own[1], own[0]], [own[0], own[1], own[2]])
        self.example([own[1], 0, own[0]], [own[1], own[1], None], [own[0], 0, own[1]], [own[0], own[0], None])

    def test_nothing(self):
        self.example([None, None], [None], [None, None], [None])
        self.example([], [], [], [])

    def test_against_the_definition(self):
        """The example is of the pair's kind, its own example, and the same one for alike pairs."""
        for patterns in ([], PATTERNS, ["?*", "*a"], ["", "a", "b"]):
            pairs = some_pairs(60)
            examples = [example_of(patterns, pair) for pair in pairs]
            for pair, example in zip(pairs, examples):
                self.assertTrue(alike_by_hand(patterns, pair, example))
                self.assertEqual(example_of(patterns, example), example)
                self.first_ones(patterns, example)
            for one, other in itertools.combinations(range(len(pairs)), 2):
                self.assertEqual(examples[one] == examples[other], alike_by_hand(patterns, pairs[one], pairs[other]))

    def first_ones(self, patterns, example):
        """Its texts are the first ones of their classes, its ids the first ones, each in the order of the registers."""
        held = list(dict.fromkeys(example[0][1] + example[1][1]))
        rows = {}
        for text in [value for value in held if type(value) is str]:
            rows.setdefault(tuple(fits(pattern, text) for pattern in patterns), []).append(text)
        for wanted, row in rows.items():
            texts = [text for text in SHORT if tuple(fits(pattern, text) for pattern in patterns) == wanted]
            self.assertEqual(row, texts[:len(row)])
        known = [value for value in held if type(value) is int and value != 0]
        self.assertEqual(known, list(range(1, len(known) + 1)))
        for _, values in example:
            own = list(dict.fromkeys(value[1] for value in values if type(value) is tuple))
            self.assertEqual(own, list(range(len(own))))

    def test_too_many_states(self):
        for pair in (GOOD, (("open", []), ("open", [])), (("open", [None, 0]), ("far", [("own", 2)]))):
            self.assert_fails(TooManyStates, None, example_of, STATES_401, pair)
        self.assertEqual(example_of(STATES_400, GOOD)[0][0], "open")

    def test_new_lists(self):
        pair = (("open", [None, ""]), ("far", [0]))
        found = example_of([], pair)
        self.assertEqual(found, pair)
        for item, other in zip(found, pair):
            self.assertIsNot(item[1], other[1])


class Order(TestCase):

    def in_order(self, *pairs):
        for pair in pairs:
            check_pair(FIRST, SECOND, pair, 0)
        keys = [pair_key(FIRST, SECOND, pair) for pair in pairs]
        for one, other in itertools.combinations(range(len(pairs)), 2):
            self.assertLess(keys[one], keys[other], (pairs[one], pairs[other]))

    def test_stations(self):
        self.in_order(*[((one, ["a", 1]), (other, [2])) for one in ("open", "closed") for other in ("closed", "far", "open")])
        # Stations come ahead of all registers.
        self.in_order((("open", [("own", 9), ("own", 9)]), ("far", [5])), (("open", [None, None]), ("open", [None])),
                      (("closed", [None, None]), ("closed", [None])))

    def test_registers(self):
        order = [None, "", "a", "b", "z", "aa", "ab", "zz", "aaa", -1, -2, -3, -10, 0, 1, 2, 10, ("own", 0), ("own", 1), ("own", 2), ("own", 10)]
        self.in_order(*[(("open", [value, None]), ("far", [None])) for value in order])
        self.in_order(*[(("open", ["a", value]), ("far", ["a"])) for value in order])
        self.in_order(*[(("open", ["a", 1]), ("far", [value])) for value in order])

    def test_first_register_that_differs(self):
        self.in_order((("open", [None, "b"]), ("far", [5])), (("open", ["", None]), ("far", [None])), (("open", ["", "a"]), ("far", [9])),
                      (("open", ["", "b"]), ("far", [None])), (("open", ["a", None]), ("far", [None])))

    def test_equal_only_for_equal_pairs(self):
        pairs = some_pairs(200)
        for one, other in itertools.product(pairs, repeat=2):
            self.assertEqual(pair_key(FIRST, SECOND, one) == pair_key(FIRST, SECOND, other), one == other)

    def test_against_the_definition(self):
        pairs = some_pairs(120)
        keys = [pair_key(FIRST, SECOND, pair) for pair in pairs]
        for one, other in itertools.combinations(range(len(pairs)), 2):
            order = compare_by_hand(FIRST, SECOND, pairs[one], pairs[other])
            self.assertEqual((keys[one] > keys[other]) - (keys[one] < keys[other]), (order > 0) - (order < 0))
        by_hand = sorted(pairs, key=functools.cmp_to_key(lambda one, other: compare_by_hand(FIRST, SECOND, one, other)))
        self.assertEqual(sorted(pairs, key=lambda pair: pair_key(FIRST, SECOND, pair)), by_hand)

    def test_keys_are_tuples(self):
        for pair in some_pairs(20):
            self.assertIs(type(pair_key(FIRST, SECOND, pair)), tuple)


class KnownAfter(unittest.TestCase):

    def test_least_greater_one(self):
        for held, behind, expected in (([], [], 1), ([None, "a"], ["b"], 1), ([0, None], [0], 1), ([-5, -1], [-9], 1), ([1, 0], [0], 2),
                                       ([0, 0], [7], 8), ([7, 3], [5], 8), ([("own", 9), 2], [("own", 30)], 3), (["a", 5], [-7], 6)):
            pair = (("open", held), ("open", behind))
            self.assertEqual(known_after(pair), expected)
            self.assertIs(type(known_after(pair)), int)


if __name__ == "__main__":
    unittest.main()
