import itertools
import unittest

from helper import ALWAYS, CLEAR, KEEP, TestCase
from talkalike.errors import (BadCondition, BadName, BadPattern, BadRule, BadSource, UnknownName, UnknownRequest,
                              UnknownStation)
from talkalike.rules import check_rule, patterns_of_rule, value_names

STATIONS = ["open", "closed"]
REGISTERS = ["owner", "token"]
KINDS = [("new", "name"), ("put", "key", "text"), ("get",)]
GOOD = ("open", "put", ("same", "key", "owner"), ("ok", ("value", "key"), ("text", "a")), (KEEP, ("fresh", 1)), "closed")
OPENING = (None, "new", ALWAYS, ("made", ("value", "name")), (("value", "name"), CLEAR), "open")


def with_part(place, part, rule=GOOD):
    """The rule with another element at this place."""
    return rule[:place] + (part,) + rule[place + 1:]


class Case(TestCase):

    def accepted(self, rule, stations=STATIONS, registers=REGISTERS, kinds=KINDS):
        self.assertIsNone(check_rule(rule, list(stations), list(registers), list(kinds)))

    def fails(self, kind, place, rule, registers=REGISTERS):
        self.assert_fails(kind, place, check_rule, rule, list(STATIONS), list(registers), list(KINDS))


class ValueNames(Case):

    def test_names(self):
        for name, names in (("new", ["name"]), ("put", ["key", "text"]), ("get", [])):
            self.assert_same(value_names(KINDS, name), names)

    def test_unknown(self):
        for name in ("", "key", "gets", "Get", "self"):
            self.assert_fails(UnknownRequest, name, value_names, KINDS, name)
        self.assert_fails(UnknownRequest, "new", value_names, [], "new")

    def test_new_list(self):
        value_names(KINDS, "put").append("changed")
        self.assertEqual(value_names(KINDS, "put"), ["key", "text"])


class Accepted(Case):

    def test_rules(self):
        for rule in (GOOD, OPENING, with_part(0, None), with_part(0, "closed"), with_part(5, "open"),
                     ("open", "get", ALWAYS, ("a",), (KEEP, CLEAR), "open"),
                     (None, "get", ("empty", "token"), ("abcdefghijkl",), (CLEAR, CLEAR), "open")):
            self.accepted(rule)
        self.accepted(("open", "get", ALWAYS, ("ok",), (), "open"), registers=[])
        self.accepted(("open", "get", ALWAYS, ("ok",), (KEEP,) * 3, "open"), registers=["a", "b", "c"])

    def test_counts_of_sources(self):
        for count in range(5):
            self.accepted(with_part(3, ("ok",) + (("value", "self"),) * count))

    def test_names_of_each_sort(self):
        for name in ("owner", "token", "key", "text", "self"):
            self.accepted(with_part(3, ("ok", ("value", name))))
            self.accepted(with_part(4, (("value", name), KEEP)))
            self.accepted(with_part(2, ("same", "self", name)))
            self.accepted(with_part(2, ("matches", name, "a*")))
        # A value of the kind "new", in a rule for "new".
        for name in ("owner", "token", "name", "self"):
            self.accepted(with_part(3, ("ok", ("value", name)), OPENING))

    def test_sources(self):
        for source in (("text", ""), ("text", "a"), ("text", "abcdefgh"), ("fresh", 0), ("fresh", 1), ("fresh", 2)):
            self.accepted(with_part(3, ("ok", source)))
            self.accepted(with_part(4, (source, source)))

    def test_station_called_new_or_like_a_register(self):
        self.accepted(("new", "get", ALWAYS, ("new",), (KEEP,), "owner"), ["new", "owner"], ["owner"])


class Elements(Case):

    def test_number_of_elements(self):
        for rule in ((), GOOD[:1], GOOD[:5], GOOD + ("open",), GOOD + GOOD, ("lost",) * 5, ("lost",) * 7):
            self.fails(BadRule, None, rule)

    def test_station(self):
        for station in ("lost", "", "new", "-", "Open"):
            self.fails(UnknownStation, station, with_part(0, station))

    def test_request(self):
        for name in ("", "key", "take", "self", "open"):
            self.fails(UnknownRequest, name, with_part(1, name))

    def test_new_with_a_station(self):
        self.fails(BadRule, 0, with_part(0, "open", OPENING))

    def test_condition(self):
        for condition in ((), ("maybe",), ("not",), ("not", ALWAYS, ALWAYS)):
            self.fails(BadCondition, condition, with_part(2, condition))
        self.fails(UnknownName, "name", with_part(2, ("matches", "name", "a")))
        self.fails(UnknownName, "key", with_part(2, ("same", "self", "key"), OPENING))
        self.fails(UnknownName, "key", with_part(2, ("empty", "key")))
        self.fails(UnknownName, "self", with_part(2, ("empty", "self")))
        self.fails(BadPattern, "***", with_part(2, ("matches", "key", "***")))
        self.fails(BadCondition, ("and",) + (ALWAYS,) * 20, with_part(2, ("and",) + (ALWAYS,) * 20))

    def test_number_of_items_in_an_answer(self):
        source = ("text", "a")
        self.fails(BadRule, 3, with_part(3, ()))
        self.accepted(with_part(3, ("ok",) + (source,) * 4))
        self.fails(BadRule, 3, with_part(3, ("ok",) + (source,) * 5))
        self.fails(BadRule, 3, with_part(3, ("ok",) + (source,) * 6))
        # The number comes ahead of what is wrong with the items.
        self.fails(BadRule, 3, with_part(3, ("",) + (("text", "A"),) * 5))

    def test_word_of_an_answer(self):
        for word in ("", "Ok", "a b", "abcdefghijklm", "a1", "="):
            self.fails(BadName, word, with_part(3, (word,)))
            self.fails(BadName, word, with_part(3, (word, ("text", "A"))))

    def test_number_of_lines(self):
        for turn in ((), (KEEP,), (KEEP,) * 3, (("lost",),), (("text", "A"),) * 3):
            self.fails(BadRule, 4, with_part(4, turn))
        self.fails(BadRule, 4, ("open", "get", ALWAYS, ("ok",), (KEEP,), "open"), registers=[])

    def test_next_station(self):
        for station in ("lost", "", "-", "new"):
            self.fails(UnknownStation, station, with_part(5, station))


class Sources(Case):

    def both(self, kind, place, source):
        """The error of the source, in an answer and in a turn, whatever is wrong behind it."""
        for behind in (("text", "b"), ("text", "B")):
            self.fails(kind, place, with_part(3, ("ok", ("text", "a"), source, behind)))
            self.fails(kind, place, with_part(4, (source, behind)))
        self.fails(kind, place, with_part(4, (KEEP, source)))

    def test_form(self):
        for source in ((), ("value",), ("text",), ("fresh",), ("value", "key", "key"), ("text", "a", "b"), ("fresh", 0, 0),
                       ("values", "key"), ("", "key"), ("own", 0), ("empty", "owner"), ("keep", "owner"), ("clear", 0),
                       ("keeps",), ("always",)):
            self.both(BadSource, source, source)

    def test_lines_are_no_sources(self):
        for line in (KEEP, CLEAR):
            self.fails(BadSource, line, with_part(3, ("ok", line)))

    def test_names(self):
        for name in ("", "name", "other", "put", "open", "Key"):
            self.both(UnknownName, name, ("value", name))
        self.fails(UnknownName, "key", with_part(3, ("ok", ("value", "key")), OPENING))

    def test_texts(self):
        for text in ("abcdefghi", "a" * 100, "A", "a b", "a1", "=", "?", "*", "a\n", " "):
            self.both(BadSource, ("text", text), ("text", text))

    def test_numbers(self):
        for number in (3, -1, 4, 10 ** 40, -10 ** 40, "0", "", None):
            self.both(BadSource, ("fresh", number), ("fresh", number))

    def test_in_order(self):
        bad = [(("text", "A"), BadSource, ("text", "A")), (("value", "no"), UnknownName, "no"), ((), BadSource, ())]
        for (source, kind, place), (other, _, _) in itertools.permutations(bad, 2):
            self.fails(kind, place, with_part(3, ("ok", source, other)))
            self.fails(kind, place, with_part(4, (source, other)))


class FirstError(Case):

    def test_order(self):
        """Of any two wrong parts, the one that is checked first tells the error."""
        wrong = [
            (0, "lost", UnknownStation, "lost"),
            (1, "take", UnknownRequest, "take"),
            (2, ("maybe",), BadCondition, ("maybe",)),
            (3, ("Ok",), BadName, "Ok"),
            (4, (KEEP,), BadRule, 4),
            (5, "far", UnknownStation, "far"),
        ]
        for count in range(1, 7):
            for chosen in itertools.combinations(wrong, count):
                rule = GOOD
                for place, part, _, _ in chosen:
                    rule = with_part(place, part, rule)
                self.fails(chosen[0][2], chosen[0][3], rule)

    def test_new_with_a_station(self):
        opening = with_part(0, "open", OPENING)
        self.fails(UnknownStation, "lost", with_part(0, "lost", OPENING))
        for place, part in ((2, ("maybe",)), (3, ()), (4, ()), (5, "far")):
            self.fails(BadRule, 0, with_part(place, part, opening))

    def test_condition_ahead_of_the_answer(self):
        self.fails(UnknownName, "lock", ("open", "put", ("empty", "lock"), (), (), "far"))
        self.fails(BadPattern, "A", ("open", "put", ("matches", "key", "A"), ("ok", ("text", "B")), (KEEP, KEEP), "open"))

    def test_answer_ahead_of_the_turn(self):
        self.fails(BadSource, ("fresh", 3), ("open", "put", ALWAYS, ("ok", ("fresh", 3)), (("fresh", 4), KEEP), "far"))
        self.fails(BadSource, ("fresh", 4), ("open", "put", ALWAYS, ("ok",), (("fresh", 4), KEEP), "far"))


class Patterns(unittest.TestCase):

    def test_order(self):
        condition = ("and", ("matches", "key", "b*"), ("or", ("matches", "self", ""), ("matches", "key", "a")))
        answer = ("ok", ("text", "b"), ("value", "text"), ("text", ""), ("fresh", 1))
        turn = (("text", "z"), KEEP, CLEAR, ("fresh", 0), ("value", "key"), ("text", "b"))
        self.assertEqual(patterns_of_rule(("open", "put", condition, answer, turn, "open")),
                         ["b*", "", "a", "b", "", "z", "b"])
        self.assertEqual(patterns_of_rule(("open", "put", ALWAYS, answer, turn, "open")), ["b", "", "z", "b"])
        self.assertEqual(patterns_of_rule(("open", "put", ALWAYS, ("text",), turn, "open")), ["z", "b"])
        self.assertEqual(patterns_of_rule(("open", "put", condition, ("ok",), (), "open")), ["b*", "", "a"])
        self.assertEqual(patterns_of_rule(("text", "text", ALWAYS, ("text",), (KEEP,), "text")), [])

    def test_new_list(self):
        patterns_of_rule(GOOD).append("changed")
        self.assertEqual(patterns_of_rule(GOOD), ["a"])


if __name__ == "__main__":
    unittest.main()
