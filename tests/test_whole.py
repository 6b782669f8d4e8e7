"""What the document says of the program as a whole."""

import copy
import unittest

from helper import ALWAYS, CLEAR, KEEP, TestCase, locks, receipts
from talkalike.alone import alone
from talkalike.classes import all_classes, first_rows, first_texts
from talkalike.conditions import patterns_in
from talkalike.difference import difference
from talkalike.exchange import exchange
from talkalike.goals import check_goal, patterns_of_goal
from talkalike.house import House, run_talk
from talkalike.idle import can_forget, core, forgettable, forgetting, idle_rules
from talkalike.live import carried, check_carry, live
from talkalike.moves import move, openings, requests_to
from talkalike.notation import format_service, parse_service
from talkalike.pairs import example_of
from talkalike.papers import judge, paper
from talkalike.reach import reach
from talkalike.rules import patterns_of_rule, value_names
from talkalike.saying import saying
from talkalike.search import first_talk
from talkalike.serves import serves
from talkalike.services import Service, patterns_of, same_service, with_rules
from talkalike.states import all_states
from talkalike.steps import new_object, opened, step
from talkalike.suites import changed, changes_of, part_in, suite_of
from talkalike.talks import least_talk
from talkalike.written import parse_talk

TALK = [("new",), (0, "close"), (0, "claim", 1), (0, "claim", 1)]
PAIR = (("closed", [1]), ("closed", [1]))
CARRY = (["open", "closed"], [("self",)])


def ends(request, given, outcome):
    return outcome[0] == "go" and outcome[3] == ("claimed",)


# Functions that return a list, or something with lists in it, and their arguments.
CALLS = [
    (all_states, ["a*"]), (all_classes, ["a*"]), (first_texts, ["a*"], (True,), 3, ["a"]), (first_rows, ["a*"], 2),
    (least_talk, [("new",), ("close",), ("claim", "key")], [TALK, TALK[:2]]), (parse_talk, "new\n#0 get"),
    (patterns_in, ("matches", "key", "a*")), (value_names, [("new", "name")], "new"),
    (patterns_of_rule, ("open", "close", ALWAYS, ("ok", ("text", "a")), (KEEP,), "open")), (patterns_of, [receipts(), locks()]),
    (new_object, receipts()), (step, receipts(), ("closed", [1]), 0, "claim", [1], 2), (opened, receipts(), [], 4),
    (run_talk, receipts(), TALK), (alone, receipts(), TALK, 0), (exchange, receipts(), [("new",), (0, "claim", -1)], [(-1, -2)]),
    (example_of, ["a*"], PAIR), (openings, receipts(), receipts(), ["a*"]), (requests_to, receipts(), receipts(), ["a*"], PAIR),
    (move, receipts(), receipts(), PAIR, (0, "claim", 1), 2), (reach, receipts(), receipts(ALWAYS), ["a*"]),
    (first_talk, receipts(), receipts(), ends, ("a*",)), (difference, receipts(), receipts(ALWAYS)), (serves, receipts(ALWAYS), receipts()),
    (paper, receipts(), receipts()), (judge, receipts(), receipts(), [PAIR]), (idle_rules, with_rules(receipts(), receipts().rules * 2)),
    (can_forget, receipts(), [("closed", "token")]), (forgettable, receipts()), (check_goal, ("and", ("new", 0))),
    (patterns_of_goal, ("matches", 0, "a*")), (saying, receipts(), ("word", "claimed")), (changes_of, receipts()),
    (part_in, receipts(), receipts(ALWAYS), TALK), (suite_of, receipts()), (check_carry, receipts(), receipts(), CARRY),
    (carried, receipts(), CARRY, ("open", [("own", 0)]), 3), (live, receipts(), receipts(), CARRY)]


def plain(value):
    """A value in which each service is written as text."""
    if isinstance(value, Service):
        return format_service(value)
    if isinstance(value, (list, tuple)):
        return type(value)(plain(one) for one in value)
    return copy.deepcopy(value)


def spoil(value):
    """Change every list and dict in the value."""
    if isinstance(value, (list, tuple)):
        for one in value:
            spoil(one)
    if isinstance(value, dict):
        spoil(list(value.values()))
        value["spoilt"] = True
    if isinstance(value, list):
        value.append("spoilt")


class Whole(TestCase):

    def test_example_at_the_head_of_the_document(self):
        kinds = [("new",), ("close",), ("claim", "key")]
        opening = (None, "new", ("always",), ("ok",), (("clear",),), "open")
        closing = ("open", "close", ("always",), ("receipt", ("fresh", 0)), (("fresh", 0),), "closed")
        claiming = ("closed", "claim", ("same", "key", "token"), ("claimed",), (("clear",),), "closed")
        careful = Service(["open", "closed"], ["token"], kinds, [opening, closing, claiming])
        self.assert_same(run_talk(careful, [("new",), (0, "close"), (0, "claim", 1), (0, "claim", 1)]),
                         [("ok", 0), ("receipt", 1), ("claimed",), None])
        careless_claim = ("closed", "claim", ("always",), ("claimed",), (("clear",),), "closed")
        careless = Service(["open", "closed"], ["token"], kinds, [opening, closing, careless_claim])
        self.assert_same(difference(careful, careless), ([("new",), (0, "close"), (0, "claim", "")], None, ("claimed",)))

    def test_no_argument_changes(self):
        for function, *arguments in CALLS:
            before = [plain(one) for one in arguments]
            function(*arguments)
            self.assertEqual([plain(one) for one in arguments], before, function.__name__)

    def test_every_result_is_new(self):
        """Whatever is done to a result, the arguments stay and the next result is the same."""
        for function, *arguments in CALLS:
            before = [plain(one) for one in arguments]
            found = function(*arguments)
            expected = copy.deepcopy(found)
            spoil(found)
            self.assertEqual([plain(one) for one in arguments], before, function.__name__)
            self.assert_same(function(*arguments), expected)

    def test_services_stay(self):
        """A service is no longer connected with the lists that it was made of, nor one service with another one."""
        lists = [["open", "closed"], ["token"], receipts().requests, receipts().rules]
        service = Service(*lists)
        others = [core(service), forgetting(service, [("closed", "token")]), changed(service, ("swap", 0)), with_rules(service, lists[3])]
        texts = [format_service(one) for one in [service] + others]
        spoil(lists)
        for one in [service] + others:
            for part in (one.stations, one.registers, one.requests, one.rules):
                part.clear()
        self.assertEqual([format_service(one) for one in [service] + others], texts)
        self.assertTrue(same_service(service, parse_service(texts[0])))

    def test_houses_stay(self):
        house = House(receipts())
        for request in TALK:
            house.ask(request)
        found = [house.object_of(0), house.objects(), house.given()]
        expected = copy.deepcopy(found)
        spoil(found)
        self.assert_same([house.object_of(0), house.objects(), house.given()], expected)

    def test_questions_agree(self):
        """The same thing asked in several ways."""
        for first, second in ((receipts(), receipts()), (receipts(), receipts(ALWAYS)), (receipts(ALWAYS), receipts()), (locks(), locks())):
            found = difference(first, second)
            self.assertEqual(paper(first, second) is None, found is not None)
            pairs = list(reach(first, second).values())
            self.assertIs(judge(first, second, pairs), found is None)
            talk = first_talk(first, second, lambda request, given, outcome: outcome[0] == "part")
            self.assertEqual(None if talk is None else (talk[0], *talk[1][1:]), found)
            if found is not None:
                self.assertIs(part_in(first, second, found[0]), True)
                self.assertIs(part_in(first, second, found[0][:-1]), False)
            carry = (first.stations, [("held", name) for name in first.registers])
            self.assertEqual(live(first, second, carry), None if found is None else (0, *found))

    def test_clearing_what_is_empty(self):
        service = with_rules(receipts(), [(*rule[:4], (CLEAR,), rule[5]) if rule[1] == "new" else rule for rule in receipts().rules])
        self.assertIsNone(difference(service, with_rules(service, [(*service.rules[0][:4], (KEEP,), "open"), *service.rules[1:]])))


if __name__ == "__main__":
    unittest.main()
