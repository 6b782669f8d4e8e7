import itertools
import unittest

from helper import ALWAYS, Dice, TestCase, receipts
from talkalike.errors import (BadCount, BadKinds, BadName, BadRule, BadSource, DuplicateName, UnknownName, UnknownRequest,
                              UnknownStation)
from talkalike.services import Service, patterns_of, same_service, with_rules

STATIONS = ["open", "closed"]
REGISTERS = ["owner"]
KINDS = [("new", "name"), ("put", "key"), ("get",)]
OPENING = (None, "new", ALWAYS, ("ok",), (("value", "name"),), "open")
PUTTING = ("open", "put", ("matches", "key", "a*"), ("ok", ("text", "b")), (("text", "a"),), "closed")
RULES = [OPENING, PUTTING]
NAMES = ["a", "b", "c", "d", "e", "f", "g", "h"]


class Case(TestCase):

    def fails(self, kind, place, stations=STATIONS, registers=REGISTERS, kinds=KINDS, rules=RULES):
        self.assert_fails(kind, place, Service, stations, registers, kinds, rules)


class Accepted(Case):

    def test_numbers_of_stations(self):
        for count in range(1, 7):
            self.assertEqual(Service(NAMES[:count], [], KINDS, []).stations, NAMES[:count])
        for count in (0, 7, 8):
            self.fails(BadCount, "stations", stations=NAMES[:count], rules=[])

    def test_numbers_of_registers(self):
        for count in range(4):
            self.assertEqual(Service(STATIONS, NAMES[:count], KINDS, []).registers, NAMES[:count])
        for count in (4, 5):
            self.fails(BadCount, "registers", registers=NAMES[:count], rules=[])

    def test_numbers_of_kinds(self):
        for count in range(6):
            kinds = [("new",)] + [(name,) for name in NAMES[:count]]
            self.assertEqual(Service(STATIONS, [], kinds, []).requests, kinds)
        self.fails(BadKinds, None, kinds=[], rules=[])
        self.fails(BadKinds, None, kinds=[("new",)] + [(name,) for name in NAMES[:6]], rules=[])

    def test_numbers_of_rules(self):
        for count in (0, 1, 2, 39, 40):
            self.assertEqual(Service(STATIONS, REGISTERS, KINDS, [OPENING] * count).rules, [OPENING] * count)
        for count in (41, 50):
            self.fails(BadCount, "rules", rules=[OPENING] * count)

    def test_names_that_meet(self):
        # Stations, registers, kinds and values may share names, as far as nothing bars it.
        service = Service(["new", "self", "owner"], ["new", "owner"], [("new", "open"), ("owner", "put"), ("put",)], [])
        self.assertEqual(service.registers, ["new", "owner"])
        self.assertEqual(Service(["abcdefghijkl"], ["abcdefghijkl"], [("new",)], []).stations, ["abcdefghijkl"])


class Errors(Case):

    def test_names(self):
        for name in ("", "Open", "abcdefghijklm", "a b", "a1", "-"):
            self.fails(BadName, name, stations=["open", name, "closed"], rules=[])
            self.fails(BadName, name, stations=[name, name], rules=[])
            self.fails(BadName, name, registers=["owner", name], rules=[])
            self.fails(BadName, name, registers=[name, name], rules=[])

    def test_repeated_names(self):
        self.fails(DuplicateName, "open", stations=["open", "closed", "open"])
        self.fails(DuplicateName, "b", stations=["a", "b", "b", "a"])
        self.fails(DuplicateName, "owner", registers=["owner", "owner"])
        self.fails(DuplicateName, "owner", registers=["owner", "note", "owner"])

    def test_in_order(self):
        self.fails(BadName, "A", stations=["a", "A", "a"])
        self.fails(DuplicateName, "a", stations=["a", "a", "A"])
        self.fails(BadName, "A", registers=["a", "A", "a"])
        self.fails(DuplicateName, "a", registers=["a", "a", "A"])

    def test_self(self):
        self.fails(BadName, "self", registers=["self"])
        self.fails(BadName, "self", registers=["owner", "self"], rules=[])
        # It is looked for behind the names of all registers.
        self.fails(BadName, "A", registers=["self", "A"])
        self.fails(DuplicateName, "self", registers=["self", "self"])
        self.fails(DuplicateName, "a", registers=["self", "a", "a"])
        self.assertEqual(Service(["self"], [], [("new",)], []).stations, ["self"])

    def test_kinds(self):
        for kinds in ([("put",)], [("new",), ("new",)], [("new",), ("put", "self")], [("new",), ()], [("new", "a", "a")],
                      [("new", "a", "b", "c", "d")], [("new",), ("Put",)], [("new", "owner")], [("new",), ("put", "owner")]):
            self.fails(BadKinds, None, kinds=kinds, rules=[])
        # The last two are only wrong beside that register.
        self.assertEqual(Service(STATIONS, [], [("new",), ("put", "owner")], []).requests, [("new",), ("put", "owner")])

    def test_rules(self):
        self.fails(BadRule, None, rules=[OPENING, ()])
        self.fails(BadRule, 4, rules=[OPENING], registers=[])
        self.fails(UnknownStation, "lost", rules=[OPENING, PUTTING[:5] + ("lost",)])
        self.fails(UnknownRequest, "take", rules=[OPENING, (None, "take") + PUTTING[2:], ()])
        self.fails(UnknownName, "key", rules=[OPENING[:2] + (("matches", "key", ""),) + OPENING[3:], ()])
        self.fails(BadSource, ("fresh", 3), rules=[OPENING, PUTTING[:4] + ((("fresh", 3),), "open"), ()])

    def test_order(self):
        """Of any wrong things, the one that is checked first tells the error."""
        wrong = [("stations", [], BadCount, "stations"), ("stations", ["open", "Closed"], BadName, "Closed"),
                 ("registers", NAMES[:4], BadCount, "registers"), ("registers", ["self", "Owner"], BadName, "Owner"),
                 ("registers", ["self"], BadName, "self"), ("kinds", [("new",), ("put", "owner")], BadKinds, None),
                 ("kinds", [], BadKinds, None), ("rules", [()] * 41, BadCount, "rules"), ("rules", [(), ("a",)], BadRule, None)]
        for count in range(1, 5):
            for chosen in itertools.combinations(wrong, count):
                lists = {name: value for name, value, _, _ in chosen}
                if len(lists) == count:
                    self.fails(chosen[0][2], chosen[0][3], **lists)


class Properties(Case):

    def test_values(self):
        service = Service(STATIONS, REGISTERS, KINDS, RULES)
        self.assert_same(service.stations, ["open", "closed"])
        self.assert_same(service.registers, ["owner"])
        self.assert_same(service.requests, [("new", "name"), ("put", "key"), ("get",)])
        self.assert_same(service.rules, [OPENING, PUTTING])

    def test_passed_lists_changed_afterwards(self):
        lists = [list(STATIONS), list(REGISTERS), list(KINDS), list(RULES)]
        service = Service(*lists)
        for one in lists:
            one.clear()
        self.assertTrue(same_service(service, Service(STATIONS, REGISTERS, KINDS, RULES)))
        self.assertEqual([service.stations, service.registers, service.requests, service.rules],
                         [STATIONS, REGISTERS, KINDS, RULES])

    def test_returned_lists_changed_afterwards(self):
        service = Service(STATIONS, REGISTERS, KINDS, RULES)
        for read in (lambda: service.stations, lambda: service.registers, lambda: service.requests, lambda: service.rules):
            expected = list(read())
            self.assertIsNot(read(), read())
            read().clear()
            read().append("changed")
            self.assertEqual(read(), expected)

    def test_arguments_stay(self):
        lists = [list(STATIONS), list(REGISTERS), list(KINDS), list(RULES)]
        Service(*lists)
        self.assertEqual(lists, [STATIONS, REGISTERS, KINDS, RULES])

    def test_two_services(self):
        one = Service(STATIONS, REGISTERS, KINDS, RULES)
        other = Service(["far"], [], [("new",)], [])
        self.assertEqual((one.stations, one.rules), (STATIONS, RULES))
        self.assertEqual((other.stations, other.registers, other.requests, other.rules), (["far"], [], [("new",)], []))

    def test_no_assignment(self):
        with self.assertRaises(AttributeError):
            Service(STATIONS, REGISTERS, KINDS, RULES).stations = []


class Same(unittest.TestCase):

    def test_same(self):
        self.assertIs(same_service(receipts(), receipts()), True)
        self.assertIs(same_service(Service(["a"], [], [("new",)], []), Service(["a"], [], [("new",)], [])), True)

    def test_each_part(self):
        base = (STATIONS, REGISTERS, KINDS, [])
        others = [(["closed", "open"], REGISTERS, KINDS, []), (["open"], REGISTERS, KINDS, []),
                  (STATIONS, [], KINDS, []), (STATIONS, ["note"], KINDS, []),
                  (STATIONS, REGISTERS, KINDS[:2], []), (STATIONS, REGISTERS, [("new", "names")] + KINDS[1:], []),
                  (STATIONS, REGISTERS, [KINDS[0], KINDS[2], KINDS[1]], []),
                  (STATIONS, REGISTERS, KINDS, [OPENING]), (STATIONS, REGISTERS, KINDS, [OPENING, OPENING]),
                  (STATIONS, REGISTERS, KINDS, RULES), (STATIONS, REGISTERS, KINDS, RULES[::-1])]
        services = [Service(*lists) for lists in [base] + others]
        for one, other in itertools.product(range(len(services)), repeat=2):
            self.assertIs(same_service(services[one], services[other]), one == other)


class WithRules(Case):

    def test_rules(self):
        service = Service(STATIONS, REGISTERS, KINDS, RULES)
        for rules in ([], [PUTTING], RULES[::-1], RULES * 3):
            other = with_rules(service, rules)
            self.assertTrue(same_service(other, Service(STATIONS, REGISTERS, KINDS, rules)))
        self.assertTrue(same_service(service, Service(STATIONS, REGISTERS, KINDS, RULES)))

    def test_list_changed_afterwards(self):
        rules = [OPENING]
        other = with_rules(Service(STATIONS, REGISTERS, KINDS, []), rules)
        rules.append(PUTTING)
        self.assertEqual(other.rules, [OPENING])

    def test_errors(self):
        service = Service(STATIONS, REGISTERS, KINDS, RULES)
        self.assert_fails(BadCount, "rules", with_rules, service, [OPENING] * 41)
        self.assert_fails(BadRule, None, with_rules, service, [OPENING, (), ("a",)])
        self.assert_fails(UnknownStation, "lost", with_rules, service, [("lost",) + PUTTING[1:], ()])


class Patterns(unittest.TestCase):

    def test_told_texts_among_them(self):
        service = Service(STATIONS, REGISTERS, KINDS, RULES)
        self.assertEqual(patterns_of([service]), ["a*", "b", "a"])
        self.assertEqual(patterns_of([]), [])
        self.assertEqual(patterns_of([receipts()]), [])

    def test_each_once_in_the_order_of_first_occurrence(self):
        def rule(patterns, told, kept):
            condition = ("or",) + tuple(("matches", "key", pattern) for pattern in patterns)
            return ("open", "put", condition, ("ok",) + tuple(("text", one) for one in told), (("text", kept),), "open")
        one = Service(STATIONS, REGISTERS, KINDS, [rule(["z", "?"], ["z", "b"], ""), rule(["b", "c"], [], "a")])
        other = Service(STATIONS, REGISTERS, KINDS, [rule(["a", "*"], ["z", "d"], "d")])
        self.assertEqual(patterns_of([one]), ["z", "?", "b", "", "c", "a"])
        self.assertEqual(patterns_of([one, one]), ["z", "?", "b", "", "c", "a"])
        self.assertEqual(patterns_of([one, other]), ["z", "?", "b", "", "c", "a", "*", "d"])
        self.assertEqual(patterns_of([other, one]), ["a", "*", "z", "d", "?", "b", "", "c"])

    def test_new_list(self):
        service = Service(STATIONS, REGISTERS, KINDS, RULES)
        services = [service]
        patterns_of(services).append("changed")
        self.assertEqual(patterns_of(services), ["a*", "b", "a"])
        self.assertEqual(services, [service])


class Rolled(unittest.TestCase):

    def test_rolled_services(self):
        for seed in range(50):
            service = Dice(seed).service()
            copy = Service(service.stations, service.registers, service.requests, service.rules)
            self.assertTrue(same_service(service, copy))
            self.assertEqual(len(set(patterns_of([service]))), len(patterns_of([service])))
            self.assertTrue(same_service(service, with_rules(with_rules(service, []), service.rules)))


if __name__ == "__main__":
    unittest.main()
