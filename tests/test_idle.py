import copy
import unittest

from helper import ALWAYS, CLEAR, KEEP, NEVER, STATES_401, Dice, TestCase, locks, receipts, run_by_hand, thousand, with_rule
from talkalike.difference import difference
from talkalike.errors import TooManyKinds, TooManyPatterns, TooManyStates, UnknownName, UnknownStation
from talkalike.idle import can_forget, core, forgettable, forgetting, idle_rules
from talkalike.services import Service, same_service, with_rules

KINDS = [("new",), ("put", "key"), ("get",)]
OPENING = (None, "new", ALWAYS, ("ok",), (CLEAR,), "on")
GETTING = ("on", "get", ALWAYS, ("got",), (KEEP,), "on")
PUTTING = ("on", "put", ALWAYS, ("ok",), (("value", "key"),), "on")


def service_of(*rules, registers=("item",), stations=("on", "off")):
    return Service(list(stations), list(registers), KINDS, list(rules))


def asking(*patterns):
    """Rules that ask a value for these patterns."""
    return [("on", "put", ("matches", "key", pattern), ("ok",), (KEEP,), "on") for pattern in patterns]


class IdleRules(TestCase):

    def test_none(self):
        self.assert_same(idle_rules(receipts()), [])
        self.assert_same(idle_rules(locks()), [])
        self.assert_same(idle_rules(service_of()), [])

    def test_equal_rules(self):
        self.assert_same(idle_rules(service_of(OPENING, OPENING)), [0, 1])
        self.assert_same(idle_rules(service_of(OPENING, GETTING, GETTING)), [1, 2])
        self.assert_same(idle_rules(service_of(GETTING, OPENING, GETTING, GETTING)), [0, 2, 3])

    def test_rules_that_never_fit(self):
        self.assert_same(idle_rules(service_of(OPENING, GETTING[:2] + (NEVER,) + GETTING[3:])), [1])
        self.assert_same(idle_rules(service_of(OPENING, GETTING[:2] + (("not", ("empty", "item")),) + GETTING[3:])), [1])
        # No rule leads to this station, and no value is equal to the id of an object that is just opened.
        self.assert_same(idle_rules(service_of(OPENING, ("off",) + GETTING[1:])), [1])
        self.assert_same(idle_rules(service_of(OPENING, GETTING, ("off",) + PUTTING[1:])), [2])

    def test_hidden_rules(self):
        other = GETTING[:3] + (("other",),) + GETTING[4:]
        self.assert_same(idle_rules(service_of(OPENING, GETTING, other)), [2])
        self.assert_same(idle_rules(service_of(OPENING, other, GETTING)), [2])
        self.assert_same(idle_rules(service_of(OPENING, GETTING[:2] + (("empty", "item"),) + GETTING[3:], other)), [2])
        # As soon as the register may hold something, the rule behind is taken too.
        self.assert_same(idle_rules(service_of(OPENING, PUTTING, GETTING[:2] + (("empty", "item"),) + GETTING[3:], other)), [])
        texts = GETTING[:2] + (("matches", "item", "*"),) + GETTING[3:]
        self.assert_same(idle_rules(service_of(OPENING, PUTTING, texts, other[:2] + (("matches", "item", "a*"),) + other[3:])), [3])
        self.assert_same(idle_rules(service_of(OPENING, PUTTING, other[:2] + (("matches", "item", "a*"),) + other[3:], texts)), [])

    def test_only_opening(self):
        self.assert_same(idle_rules(service_of(OPENING)), [])
        self.assert_same(idle_rules(service_of(OPENING, GETTING)), [])
        # Without an opening nothing is answered, so all other rules are idle.
        self.assert_same(idle_rules(service_of(GETTING, PUTTING)), [0, 1])
        self.assert_same(idle_rules(service_of(OPENING[:2] + (NEVER,) + OPENING[3:], GETTING)), [0, 1])

    def test_against_talks(self):
        """Without an idle rule all talks are answered alike, and without another one some talk is not."""
        idle = 0
        for seed in range(80):
            dice = Dice(seed)
            service = dice.small()
            found = idle_rules(service)
            self.assertEqual(found, sorted(set(found)))
            for index in range(len(service.rules)):
                other = Service(service.stations, service.registers, service.requests,
                                service.rules[:index] + service.rules[index + 1:])
                if index in found:
                    idle += 1
                    for _ in range(5):
                        talk = dice.talk(service, 8)
                        self.assertEqual(run_by_hand(service, talk), run_by_hand(other, talk))
                else:
                    talk, *answers = difference(service, other)
                    self.assertEqual([run_by_hand(one, talk)[-1] for one in (service, other)], answers)
                    self.assertNotEqual(*answers)
        self.assertGreater(idle, 50)

    def test_errors(self):
        for question in (idle_rules, core):
            self.assert_fails(TooManyPatterns, None, question, service_of(*asking(*"abcdefghijklm")))
            self.assert_fails(TooManyStates, None, question, service_of(*asking(*STATES_401)))
            self.assert_fails(TooManyKinds, None, question, thousand(True))
            question(service_of(*asking(*"abcdefghijkl")))


class Core(TestCase):

    def core(self, service, *rules):
        """The core has these rules, and is its own core."""
        before = service.rules
        found = core(service)
        self.assertIsInstance(found, Service)
        self.assertTrue(same_service(found, with_rules(service, list(rules))))
        self.assertTrue(same_service(core(found), found))
        self.assertEqual(idle_rules(found), [])
        self.assertIsNone(difference(service, found))
        self.assertEqual(service.rules, before)

    def test_nothing_idle(self):
        for service in (receipts(), locks(), service_of(), service_of(OPENING)):
            self.core(service, *service.rules)

    def test_equal_rules(self):
        """One of them is left: the last one, as the first one goes first."""
        self.core(service_of(OPENING, OPENING, GETTING, GETTING, GETTING), OPENING, GETTING)
        other = ("off",) + GETTING[1:]
        anywhere = (None,) + GETTING[1:]
        moving = PUTTING[:5] + ("off",)
        self.core(service_of(OPENING, moving, GETTING, other, anywhere), OPENING, moving, anywhere)
        self.core(service_of(OPENING, moving, anywhere, GETTING, other), OPENING, moving, GETTING, other)

    def test_nothing_left(self):
        self.core(service_of(GETTING, PUTTING))
        self.core(service_of(OPENING[:2] + (NEVER,) + OPENING[3:], GETTING, PUTTING))

    def test_found_anew(self):
        """A rule becomes idle by another one that is left out, in front of it or behind it."""
        texts = GETTING[:2] + (("matches", "item", "*"),) + GETTING[3:]
        hidden = GETTING[:2] + (("matches", "item", "a*"), ("other",)) + GETTING[4:]
        service = service_of(OPENING, PUTTING, texts, hidden, GETTING)
        self.assertEqual(idle_rules(service), [3])
        self.core(service, OPENING, PUTTING, GETTING)
        # Three rules of which each two are enough.
        first = PUTTING[:2] + (("or", ("matches", "key", "a"), ("matches", "key", "b")),) + PUTTING[3:]
        second = PUTTING[:2] + (("or", ("matches", "key", "b"), ("matches", "key", "c")),) + PUTTING[3:]
        third = PUTTING[:2] + (("or", ("matches", "key", "c"), ("matches", "key", "a")),) + PUTTING[3:]
        service = service_of(OPENING, first, second, third)
        self.assertEqual(idle_rules(service), [1, 2, 3])
        self.core(service, OPENING, second, third)

    def test_cores_of_rolled_services(self):
        shorter = 0
        for seed in range(60):
            service = Dice(seed).small()
            rules = service.rules
            while idle_rules(with_rules(service, rules)):
                del rules[idle_rules(with_rules(service, rules))[0]]
            self.core(service, *rules)
            shorter += len(rules) + 1 < len(service.rules)
        self.assertGreater(shorter, 10)


class Forgetting(TestCase):

    def test_forgetting(self):
        service = receipts()
        found = forgetting(service, [("closed", "token")])
        self.assertTrue(same_service(found, with_rule(service, 1, turn=(CLEAR,))))
        # A claim clears it anyway, and an opening too.
        self.assertTrue(same_service(forgetting(service, [("open", "token")]), service))
        self.assertTrue(same_service(forgetting(service, []), service))
        self.assertTrue(same_service(forgetting(service, [("closed", "token")] * 2), found))

    def test_several_spots(self):
        turn = (("text", "a"), ("fresh", 0), KEEP)
        rules = [(None, "new", ALWAYS, ("ok",), turn, "on"), ("on", "get", ALWAYS, ("got",), turn, "off"),
                 ("off", "put", ALWAYS, ("ok",), turn, "on"), (None, "get", ALWAYS, ("got",), turn, "end")]
        service = service_of(*rules, registers=["a", "b", "c"], stations=["on", "off", "end", "gone"])
        found = forgetting(service, [("on", "a"), ("on", "c"), ("end", "b"), ("gone", "a")])
        cleared = [(CLEAR, turn[1], CLEAR), turn, (CLEAR, turn[1], CLEAR), (turn[0], CLEAR, KEEP)]
        self.assertEqual([rule[4] for rule in found.rules], cleared)
        self.assertEqual([rule[:4] + rule[5:] for rule in found.rules], [rule[:4] + rule[5:] for rule in rules])
        self.assertEqual((found.stations, found.registers, found.requests), (service.stations, service.registers, service.requests))
        self.assertEqual(service.rules, rules)

    def test_errors(self):
        service = receipts()
        for question in (forgetting, can_forget):
            self.assert_fails(UnknownStation, "gone", question, service, [("gone", "token")])
            self.assert_fails(UnknownName, "note", question, service, [("open", "note")])
            self.assert_fails(UnknownStation, "gone", question, service, [("gone", "note")])
            self.assert_fails(UnknownStation, "gone", question, service, [("open", "token"), ("gone", "note"), ("open", "note")])
            self.assert_fails(UnknownName, "note", question, service, [("open", "token"), ("open", "note"), ("gone", "note")])
            self.assert_fails(UnknownName, "self", question, service, [("open", "self")])
            self.assert_fails(UnknownStation, "token", question, service, [("token", "open")])
        self.assert_fails(UnknownName, "item", forgetting, service_of(registers=[]), [("on", "item")])
        # Errors of the spots come before those of the question.
        self.assert_fails(UnknownStation, "gone", can_forget, thousand(True), [("gone", "left")])
        self.assert_fails(TooManyKinds, None, can_forget, thousand(True), [("on", "left")])
        self.assert_fails(TooManyPatterns, None, can_forget, service_of(*asking(*"abcdefghijklm")), [])

    def test_can_forget(self):
        service = receipts()
        self.assertIsNone(can_forget(service, []))
        self.assertIsNone(can_forget(service, [("open", "token")]))
        self.assert_same(can_forget(service, [("closed", "token")]), ([("new",), (0, "close"), (0, "claim", 1)], ("claimed",), None))
        self.assert_same(can_forget(service, [("open", "token"), ("closed", "token")]),
                         ([("new",), (0, "close"), (0, "claim", 1)], ("claimed",), None))

    def test_station_that_no_rule_leads_to(self):
        service = service_of(OPENING, ("off", "put", ALWAYS, ("ok",), (("value", "key"),), "on"))
        self.assertIsNone(can_forget(service, [("off", "item")]))
        self.assertEqual(forgettable(service), [("on", "item"), ("off", "item")])

    def test_forgettable(self):
        self.assert_same(forgettable(receipts()), [("open", "token")])
        self.assert_same(forgettable(locks()), [])
        self.assert_same(forgettable(service_of(OPENING, registers=["item"])), [("on", "item"), ("off", "item")])
        rule = (None, "new", ALWAYS, ("ok",), (("text", "a"), ("fresh", 0)), "on")
        shows = ("on", "get", ALWAYS, ("got", ("value", "b")), (KEEP, KEEP), "off")
        service = service_of(rule, shows, registers=["a", "b"])
        self.assert_same(forgettable(service), [("on", "a"), ("off", "a"), ("off", "b")])
        self.assert_same(forgettable(Service(["on"], [], KINDS, [])), [])
        for seed in range(30):
            service = Dice(seed).small()
            spots = [(station, name) for station in service.stations for name in service.registers]
            self.assertEqual(forgettable(service), [spot for spot in spots if can_forget(service, [spot]) is None])

    def test_together_and_not_alone(self):
        """Two registers that hold the same: only their being the same is asked."""
        rule = (None, "new", ALWAYS, ("ok",), (("text", "a"), ("text", "a")), "on")
        condition = ("or", ("same", "a", "b"), ("and", ("empty", "a"), ("empty", "b")))
        asks = ("on", "get", condition, ("got",), (KEEP, KEEP), "on")
        service = service_of(rule, asks, registers=["a", "b"])
        self.assertEqual(forgettable(service), [("off", "a"), ("off", "b")])
        self.assertEqual(can_forget(service, [("on", "a")]), ([("new",), (0, "get")], ("got",), None))
        self.assertIsNone(can_forget(service, [("on", "a"), ("on", "b")]))

    def test_arguments_stay(self):
        spots = [("closed", "token")]
        before = copy.deepcopy(spots)
        forgetting(receipts(), spots)
        can_forget(receipts(), spots)
        self.assertEqual(spots, before)
        forgettable(receipts()).clear()
        idle_rules(service_of(OPENING, OPENING)).clear()
        self.assertEqual((forgettable(receipts()), idle_rules(service_of(OPENING, OPENING))), ([("open", "token")], [0, 1]))


if __name__ == "__main__":
    unittest.main()
