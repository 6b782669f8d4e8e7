import itertools
import random
import unittest

from helper import TestCase, holds_by_hand
from talkalike.conditions import check_condition, holds, normal, patterns_in, size_of
from talkalike.errors import BadCondition, BadPattern, UnknownName

NAMES = ["owner", "key", "text", "self"]
REGISTERS = ["owner"]
ALWAYS, NEVER = ("always",), ("never",)
EMPTY, SAME, MATCH = ("empty", "owner"), ("same", "key", "self"), ("matches", "text", "a*")


def nested(depth, inside=ALWAYS):
    """A condition of this depth, if what is inside has depth 1."""
    return inside if depth == 1 else ("not", nested(depth - 1, inside))


def wide(size):
    """A condition of this size and depth 2."""
    return ("or",) + (EMPTY,) * (size - 1)


def normal_by_hand(condition):
    """The normal form as point 3.5 tells it, sentence by sentence."""
    word = condition[0]
    if word in ("and", "or"):
        lasting, ending = (ALWAYS, NEVER) if word == "and" else (NEVER, ALWAYS)
        members = []
        for part in condition[1:]:
            form = normal_by_hand(part)
            members.extend(form[1:] if form[0] == word else [form])
        members = [member for at, member in enumerate(members) if member not in members[:at]]
        if ending in members:
            return ending
        members = [member for member in members if member != lasting]
        if not members:
            return lasting
        return members[0] if len(members) == 1 else (word,) + tuple(members)
    if word == "not":
        form = normal_by_hand(condition[1])
        if form in (ALWAYS, NEVER):
            return NEVER if form == ALWAYS else ALWAYS
        return form[1] if form[0] == "not" else ("not", form)
    return condition


def some_conditions(count):
    """Conditions made by rolling dice, the same ones each time."""
    dice = random.Random(7)
    atoms = [ALWAYS, NEVER, EMPTY, SAME, MATCH, ("matches", "key", ""), ("same", "owner", "key"), ("same", "key", "key")]

    def roll(depth):
        kind = dice.choice(["atom", "and", "or", "not"]) if depth > 1 else "atom"
        if kind == "atom":
            return dice.choice(atoms)
        parts = 1 if kind == "not" else dice.choice([0, 1, 2, 2, 3, 3])
        return (kind,) + tuple(roll(depth - 1) for _ in range(parts))
    return [roll(6) for _ in range(count)]


class Check(TestCase):

    def fails(self, kind, place, condition, names=NAMES, registers=REGISTERS):
        self.assert_fails(kind, place, check_condition, condition, list(names), list(registers))

    def test_accepted(self):
        for condition in (ALWAYS, NEVER, EMPTY, SAME, MATCH, ("and",), ("or",), ("and", ALWAYS), ("or", EMPTY, SAME, MATCH),
                          ("not", ("or",)), ("matches", "self", ""), ("same", "key", "key"), nested(6), wide(20),
                          ("and", ("or", ("not", EMPTY), SAME), ("and", MATCH, MATCH))):
            names, registers = list(NAMES), list(REGISTERS)
            self.assertIsNone(check_condition(condition, names, registers))
            self.assertEqual((names, registers), (NAMES, REGISTERS))
        self.assertIsNone(check_condition(ALWAYS, [], []))
        # What stands in no list of names may still be a register.
        self.assertIsNone(check_condition(EMPTY, [], ["owner"]))

    def test_no_form(self):
        for condition in (
            (), ("",), ("maybe",), ("Always",), ("always", "a"), ("always", ALWAYS), ("never", "a"), ("not",),
            ("not", ALWAYS, ALWAYS), ("matches",), ("matches", "text"), ("matches", "text", "a", "b"), ("same",),
            ("same", "key"), ("same", "key", "key", "key"), ("empty",), ("empty", "owner", "owner"), ("xor", EMPTY, EMPTY),
            ("empties", "owner"), ("nand",), ("text", "a"),
        ):
            self.fails(BadCondition, condition, condition)
            self.fails(BadCondition, condition, ("and", EMPTY, ("not", condition), ()))

    def test_unknown_names(self):
        self.fails(UnknownName, "lock", ("matches", "lock", "a"))
        self.fails(UnknownName, "lock", ("same", "lock", "key"))
        self.fails(UnknownName, "lock", ("same", "key", "lock"))
        self.fails(UnknownName, "lock", ("same", "lock", "door"))
        self.fails(UnknownName, "lock", ("empty", "lock"))
        self.fails(UnknownName, "", ("same", "key", ""))
        # A name that is no register.
        self.fails(UnknownName, "key", ("empty", "key"))
        self.fails(UnknownName, "self", ("empty", "self"))
        # A register that is no name.
        self.fails(UnknownName, "door", ("same", "door", "key"), NAMES, ["door"])
        self.fails(UnknownName, "door", ("matches", "door", ""), NAMES, ["door"])

    def test_bad_patterns(self):
        for pattern in ("A", "***", "abcdefghi", "a b", "a\n", "a1"):
            self.fails(BadPattern, pattern, ("matches", "text", pattern))
            self.fails(BadPattern, pattern, ("or", ("matches", "text", pattern), ("empty", "lock")))
        self.fails(UnknownName, "lock", ("matches", "lock", "***"))

    def test_first_error_in_the_order_of_reading(self):
        unknown, pattern, form = ("empty", "lock"), ("matches", "key", "A"), ("and", ("or", ("not",)))
        for first, second in itertools.permutations([(unknown, UnknownName, "lock"), (pattern, BadPattern, "A"),
                                                     (form, BadCondition, ("not",))], 2):
            self.fails(first[1], first[2], ("and", first[0], second[0]))
            self.fails(first[1], first[2], ("and", ("or", ALWAYS, ("not", first[0])), second[0]))
        # A condition is read before its parts, so its own form comes first.
        self.fails(BadCondition, ("not", pattern, unknown), ("not", pattern, unknown))

    def test_depth(self):
        self.assertIsNone(check_condition(nested(6, EMPTY), NAMES, REGISTERS))
        self.fails(BadCondition, ALWAYS, nested(7))
        self.fails(BadCondition, EMPTY, nested(7, EMPTY))
        # Too deep comes before everything that is wrong with this condition, and before what stands in it.
        self.fails(BadCondition, ("empty", "lock"), nested(7, ("empty", "lock")))
        self.fails(BadCondition, ("matches", "a", "A"), nested(7, ("matches", "a", "A")))
        self.fails(BadCondition, ("maybe",), nested(7, ("maybe",)))
        self.fails(BadCondition, ("not", ALWAYS), nested(8))
        self.fails(BadCondition, nested(5), nested(11))
        # What is read before it comes first.
        self.fails(UnknownName, "lock", ("and", ("empty", "lock"), nested(7)))
        self.fails(BadCondition, ALWAYS, ("and", nested(6), ("empty", "lock")))
        self.fails(BadCondition, NEVER, ("and", nested(5), ("or", EMPTY, nested(5, NEVER)), ("empty", "lock")))
        self.fails(UnknownName, "lock", nested(6, ("empty", "lock")))

    def test_size(self):
        for condition in (wide(20), ("and", wide(10), wide(9)), ("and",) + (("not", EMPTY),) * 9 + (EMPTY,)):
            self.assertEqual(size_of(condition), 20)
            self.assertIsNone(check_condition(condition, NAMES, REGISTERS))
        for condition in (wide(21), ("and", wide(10), wide(10)), ("and",) + (("not", EMPTY),) * 10, wide(40)):
            self.fails(BadCondition, condition, condition)
        # Every other error comes before the size.
        self.fails(UnknownName, "lock", wide(30) + (("empty", "lock"),))
        self.fails(BadPattern, "A", wide(30) + (("matches", "key", "A"),))
        self.fails(BadCondition, ("not",), wide(30) + (("not",),))
        self.fails(BadCondition, ALWAYS, wide(30) + (nested(6),))


class Size(unittest.TestCase):

    def test_sizes(self):
        for condition, size in ((ALWAYS, 1), (NEVER, 1), (EMPTY, 1), (SAME, 1), (MATCH, 1), (("and",), 1), (("or",), 1),
                                (("not", SAME), 2), (("and", SAME, SAME), 3), (nested(6), 6), (wide(21), 21),
                                (("or", ("and", SAME, ("not", MATCH)), ("or",)), 6)):
            self.assertEqual(size_of(condition), size)


class Holds(unittest.TestCase):

    def test_always_and_never(self):
        self.assertIs(holds(ALWAYS, {}), True)
        self.assertIs(holds(NEVER, {}), False)

    def test_no_parts(self):
        self.assertIs(holds(("and",), {}), True)
        self.assertIs(holds(("or",), {}), False)

    def test_and_or_not(self):
        for row in itertools.chain.from_iterable(itertools.product((ALWAYS, NEVER), repeat=size) for size in range(4)):
            self.assertIs(holds(("and",) + row, {}), NEVER not in row)
            self.assertIs(holds(("or",) + row, {}), ALWAYS in row)
        self.assertIs(holds(("not", ALWAYS), {}), False)
        self.assertIs(holds(("not", NEVER), {}), True)
        self.assertIs(holds(("not", ("or", NEVER, ("not", ALWAYS))), {}), True)

    def test_matches(self):
        for value, pattern, expected in (("abc", "a*", True), ("abc", "b*", False), ("", "", True), ("", "*", True),
                                         ("", "?", False), (None, "*", False), (None, "", False), (0, "*", False),
                                         (-1, "?", False), (("own", 0), "*", False), ("a", "a", True)):
            self.assertIs(holds(("matches", "text", pattern), {"text": value, "key": "a"}), expected)

    def test_same(self):
        values = ["", "a", "b", "own", 0, 1, -1, -2, ("own", 0), ("own", 1), None]
        for first, second in itertools.product(values, repeat=2):
            expected = first is not None and type(first) is type(second) and first == second
            self.assertIs(holds(("same", "key", "lock"), {"key": first, "lock": second}), expected)
            self.assertIs(holds(("same", "key", "key"), {"key": first}), first is not None)

    def test_empty(self):
        for value in ("", "a", 0, -1, ("own", 0)):
            self.assertIs(holds(EMPTY, {"owner": value}), False)
        self.assertIs(holds(EMPTY, {"owner": None, "key": "a"}), True)

    def test_against_the_definition(self):
        choices = [None, "", "ab", 0, -1, ("own", 0)]
        meanings = [dict(zip(NAMES, row)) for row in itertools.product(choices, repeat=4)][::17]
        for condition in some_conditions(150):
            for meaning in meanings:
                before = dict(meaning)
                self.assertIs(holds(condition, meaning), holds_by_hand(condition, meaning), (condition, meaning))
                self.assertEqual(meaning, before)


class Normal(unittest.TestCase):

    def test_examples(self):
        for condition, form in (
            (("and", ALWAYS, ("not", ("not", EMPTY))), EMPTY),
            (ALWAYS, ALWAYS), (NEVER, NEVER), (EMPTY, EMPTY), (SAME, SAME), (MATCH, MATCH),
            (("and",), ALWAYS), (("or",), NEVER), (("and", SAME), SAME), (("or", SAME), SAME),
            (("and", ALWAYS), ALWAYS), (("and", NEVER), NEVER), (("or", ALWAYS), ALWAYS), (("or", NEVER), NEVER),
            (("and", SAME, NEVER, MATCH), NEVER), (("or", SAME, ALWAYS, MATCH), ALWAYS),
            (("and", SAME, ALWAYS, MATCH), ("and", SAME, MATCH)), (("or", SAME, NEVER, MATCH), ("or", SAME, MATCH)),
            (("and", ALWAYS, NEVER), NEVER), (("or", NEVER, ALWAYS), ALWAYS),
            (("and", SAME, SAME), SAME), (("or", SAME, MATCH, SAME), ("or", SAME, MATCH)),
            (("and", MATCH, SAME, MATCH, EMPTY, SAME), ("and", MATCH, SAME, EMPTY)),
            (("and", SAME, ("and", MATCH, ("and", EMPTY))), ("and", SAME, MATCH, EMPTY)),
            (("or", ("or", SAME, MATCH), ("or", EMPTY, MATCH)), ("or", SAME, MATCH, EMPTY)),
            (("and", ("or", SAME, MATCH), EMPTY), ("and", ("or", SAME, MATCH), EMPTY)),
            (("or", ("and", SAME, MATCH), EMPTY), ("or", ("and", SAME, MATCH), EMPTY)),
            (("and", ("or", ("and", SAME, MATCH)), EMPTY), ("and", SAME, MATCH, EMPTY)),
            (("and", ("or",), SAME), NEVER), (("or", ("and",), SAME), ALWAYS),
            (("not", ALWAYS), NEVER), (("not", NEVER), ALWAYS), (("not", SAME), ("not", SAME)),
            (("not", ("not", SAME)), SAME), (("not", ("not", ("not", SAME))), ("not", SAME)), (nested(6), NEVER),
            (("not", ("and",)), NEVER), (("not", ("or", ("not", SAME))), SAME),
            (("not", ("not", ("and", SAME, MATCH))), ("and", SAME, MATCH)),
            (("and", EMPTY, ("not", ("not", ("and", SAME, MATCH)))), ("and", EMPTY, SAME, MATCH)),
            # Equal members are equal tuples only: what means the same stays.
            (("and", ("same", "key", "self"), ("same", "self", "key")),
             ("and", ("same", "key", "self"), ("same", "self", "key"))),
            (("or", SAME, ("not", SAME)), ("or", SAME, ("not", SAME))),
            (("not", ("and", ("not", SAME), ("not", MATCH))), ("not", ("and", ("not", SAME), ("not", MATCH)))),
            (("and", ("not", SAME), ("not", ("and", SAME))), ("not", SAME)),
        ):
            self.assertEqual(normal(condition), form, condition)

    def test_against_the_definition(self):
        for condition in some_conditions(2000):
            form = normal(condition)
            self.assertEqual(form, normal_by_hand(condition))
            self.assertEqual(normal(form), form)

    def test_meaning_stays(self):
        choices = [None, "", "ab", 0, ("own", 0)]
        meanings = [dict(zip(NAMES, row)) for row in itertools.product(choices, repeat=4)][::13]
        for condition in some_conditions(100):
            for meaning in meanings:
                self.assertIs(holds(normal(condition), meaning), holds(condition, meaning))


class Patterns(unittest.TestCase):

    def test_order_of_reading(self):
        for condition, patterns in (
            (ALWAYS, []), (SAME, []), (EMPTY, []), (("and",), []), (MATCH, ["a*"]), (("not", MATCH), ["a*"]),
            (("and", ("matches", "key", "b"), ("or", MATCH, ("not", ("matches", "key", ""))), ("matches", "text", "a")),
             ["b", "a*", "", "a"]),
            (("or", MATCH, MATCH, ("and", MATCH)), ["a*", "a*", "a*"]),
        ):
            self.assertEqual(patterns_in(condition), patterns)

    def test_new_list(self):
        for condition in (ALWAYS, MATCH, ("and", MATCH)):
            found = patterns_in(condition)
            expected = list(found)
            found.append("changed")
            self.assertEqual(patterns_in(condition), expected)


if __name__ == "__main__":
    unittest.main()
