import unittest

from helper import (ALWAYS, CLEAR, KEEP, NEVER, Dice, TestCase, first_by_hand, locks, receipts, run_by_hand, texts_of_talk,
                    thousand, with_rule)
from talkalike.difference import difference
from talkalike.errors import TooManyKinds
from talkalike.house import run_talk
from talkalike.services import Service, with_rules
from talkalike.talks import check_talk

KINDS = [("new",), ("put", "key"), ("get",)]
OPENING = (None, "new", ALWAYS, ("ok",), (CLEAR,), "on")


def service_of(*rules, registers=("item",), kinds=KINDS, stations=("on", "off")):
    return Service(list(stations), list(registers), list(kinds), list(rules))


class Case(TestCase):

    def parts(self, first, second, talk, *answers):
        """The talk is the difference, with these answers, also for the services in the other order."""
        before = [service.rules for service in (first, second)]
        self.assert_same(difference(first, second), (talk, *answers))
        self.assert_same(difference(second, first), (talk, *answers[::-1]))
        self.assertEqual([service.rules for service in (first, second)], before)
        self.assertEqual([run_by_hand(service, talk)[-1] for service in (first, second)], list(answers))

    def alike(self, first, second):
        self.assertIsNone(difference(first, second))
        self.assertIsNone(difference(second, first))


class Difference(Case):

    def test_example_of_the_document(self):
        self.parts(receipts(), receipts(ALWAYS), [("new",), (0, "close"), (0, "claim", "")], None, ("claimed",))

    def test_equal_services(self):
        for service in (receipts(), locks(), service_of(), service_of(OPENING), thousand()):
            self.alike(service, service)
            self.alike(service, with_rules(service, service.rules))

    def test_other_names(self):
        service = receipts()
        names = {"open": "on", "closed": "open"}
        rules = [(names.get(rule[0]), *rule[1:5], names[rule[5]]) for rule in service.rules]
        self.alike(service, Service(["on", "open"], ["token"], service.requests, rules))
        self.alike(service, Service(["on", "open", "spare"], ["token"], service.requests, rules))
        held = {"token": "paper"}
        rules = [(*rule[:2], tuple(held.get(part, part) for part in rule[2]), *rule[3:]) for rule in service.rules]
        self.alike(service, Service(["open", "closed"], ["paper"], service.requests, rules))
        rules = [(*rule[:4], (CLEAR, *rule[4]), rule[5]) for rule in service.rules]
        self.alike(service, Service(["open", "closed"], ["spare", "token"], service.requests, rules))

    def test_first_station(self):
        rules = [(None, "new", ALWAYS, ("ok",), (CLEAR,), "on"), ("on", "get", ALWAYS, ("got",), (KEEP,), "off")]
        self.alike(service_of(*rules), service_of(*rules, stations=("off", "on")))

    def test_exchanged_rules(self):
        texts = ("on", "put", ("matches", "key", "*"), ("text",), (KEEP,), "on")
        ids = ("on", "put", ("not", ("matches", "key", "*")), ("id",), (KEEP,), "on")
        self.alike(service_of(OPENING, texts, ids), service_of(ids, texts, OPENING))
        everything = ids[:2] + (ALWAYS,) + ids[3:]
        self.alike(service_of(OPENING, texts, ids), service_of(OPENING, texts, everything))
        self.parts(service_of(OPENING, texts, everything), service_of(OPENING, everything, texts),
                   [("new",), (0, "put", "")], ("text",), ("id",))

    def test_first_opening(self):
        self.parts(service_of(OPENING), service_of(), [("new",)], ("ok", 0), None)
        self.parts(service_of(OPENING), with_rule(service_of(OPENING), 0, answer=("no",)), [("new",)], ("ok", 0), ("no", 0))
        self.parts(service_of(OPENING), with_rule(service_of(OPENING), 0, answer=("ok", ("fresh", 1))), [("new",)], ("ok", 0), ("ok", 0, 1))
        kinds = [("new", "name")] + KINDS[1:]
        naming = (None, "new", ("matches", "name", "?a"), ("ok",), (CLEAR,), "on")
        first = service_of(naming, OPENING, kinds=kinds)
        self.parts(first, with_rule(first, 0, answer=("other",)), [("new", "aa")], ("ok", 0), ("other", 0))
        made_up = (None, "new", ("not", ("matches", "name", "*")), ("id",), (CLEAR,), "on")
        self.parts(service_of(made_up, OPENING, kinds=kinds), service_of(OPENING, kinds=kinds), [("new", -1)], ("id", 0), ("ok", 0))

    def test_refusal(self):
        getting = ("on", "get", ALWAYS, ("got",), (KEEP,), "on")
        self.parts(service_of(OPENING, getting), service_of(OPENING), [("new",), (0, "get")], ("got",), None)
        self.parts(service_of(OPENING, getting), service_of(OPENING, getting[:2] + (("empty", "item"),) + getting[3:],
                                                            ("on", "put", ALWAYS, ("ok",), (("value", "key"),), "on")),
                   [("new",), (0, "put", "")], None, ("ok",))

    def test_known_id_taken_for_another_one(self):
        putting = ("on", "put", ALWAYS, ("ok",), (("value", "key"),), "off")
        asking = ("off", "put", ("same", "key", "item"), ("same",), (KEEP,), "off")
        first = service_of(OPENING, putting, asking)
        second = service_of(OPENING, putting, asking[:2] + (("or", asking[2], ("same", "key", "self")),) + asking[3:])
        self.parts(first, second, [("new",), (0, "put", ""), (0, "put", 0)], None, ("same",))
        third = with_rule(first, 1, turn=(("value", "self"),))
        self.parts(first, third, [("new",), (0, "put", ""), (0, "put", "")], ("same",), None)
        # Only the ids are told apart: of the texts and the made-up ids the first ones show nothing.
        fourth = service_of(OPENING, putting, asking[:2] + (("and", asking[2], ("not", ("same", "key", "self"))),) + asking[3:])
        self.parts(first, fourth, [("new",), (0, "put", 0), (0, "put", 0)], ("same",), None)

    def test_own_id_kept_or_made_anew(self):
        opening = OPENING[:4] + ((("fresh", 0),), "on")
        showing = ("on", "get", ALWAYS, ("got", ("value", "item")), (KEEP,), "on")
        anew = ("on", "get", ALWAYS, ("got", ("fresh", 0)), (KEEP,), "on")
        self.parts(service_of(opening, showing), service_of(opening, anew), [("new",), (0, "get"), (0, "get")], ("got", 1), ("got", 2))
        hidden = ("on", "put", ALWAYS, ("ok",), (("fresh", 0),), "on")
        keeping = ("on", "put", ALWAYS, ("ok",), (KEEP,), "on")
        # An own id that was never shown is as good as another one.
        self.alike(service_of(opening, keeping), service_of(opening, hidden))
        self.parts(service_of(opening, showing, hidden), service_of(opening, showing, keeping),
                   [("new",), (0, "get"), (0, "put", ""), (0, "get")], ("got", 2), ("got", 1))

    def test_own_ids_of_two_registers(self):
        kinds = [("new",), ("left",), ("right",)]
        opening = (None, "new", ALWAYS, ("ok",), (("fresh", 0), ("fresh", 0)), "on")
        left = ("on", "left", ALWAYS, ("got", ("value", "one")), (KEEP, KEEP), "on")
        right = ("on", "right", ALWAYS, ("got", ("value", "two")), (KEEP, KEEP), "on")
        first = service_of(opening, left, right, registers=["one", "two"], kinds=kinds)
        second = with_rule(first, 0, turn=(("fresh", 0), ("fresh", 1)))
        self.parts(first, second, [("new",), (0, "left"), (0, "right")], ("got", 1), ("got", 2))
        self.alike(second, with_rule(first, 0, turn=(("fresh", 2), ("fresh", 0))))

    def test_order_of_talks(self):
        """Of the shortest talks the first one: kinds, texts, made-up ids, known ids in their order."""
        for condition, value in ((("matches", "key", "*"), ""), (("matches", "key", "?*"), "a"), (("matches", "key", "?b"), "ab"),
                                 (("not", ("matches", "key", "*")), -1), (("same", "key", "self"), 0), (("same", "key", "item"), 1)):
            opening = OPENING[:3] + (("ok", ("fresh", 0)), (("fresh", 0),), "on")
            rule = ("on", "put", condition, ("found",), (KEEP,), "on")
            first = service_of(opening, rule)
            self.parts(first, with_rule(first, 1, answer=("other",)), [("new",), (0, "put", value)], ("found",), ("other",))
        getting = ("on", "get", ALWAYS, ("got",), (KEEP,), "on")
        first = service_of(OPENING, getting, ("on", "put", ALWAYS, ("ok",), (KEEP,), "on"))
        second = with_rule(with_rule(first, 1, answer=("other",)), 2, answer=("other",))
        self.parts(first, second, [("new",), (0, "put", "")], ("ok",), ("other",))

    def test_values_that_no_rule_names(self):
        kinds = [("new", "name", "key"), ("put", "key", "name", "more")]
        opening = (None, "new", ALWAYS, ("ok",), (), "on")
        putting = ("on", "put", ("same", "more", "self"), ("ok",), (), "on")
        first = service_of(opening, putting, kinds=kinds, registers=[])
        self.parts(first, with_rule(first, 1, condition=NEVER), [("new", "", ""), (0, "put", "", "", 0)], ("ok",), None)
        other = with_rule(first, 1, condition=("and", ("matches", "key", "*"), ("matches", "more", "*"), ("not", ("same", "key", "more"))))
        self.parts(other, with_rule(first, 1, condition=NEVER), [("new", "", ""), (0, "put", "", "", "a")], ("ok",), None)
        other = with_rule(other, 1, condition=("not", ("or", ("matches", "key", "*"), ("matches", "more", "*"), ("same", "key", "more"),
                                                       ("same", "key", "self"), ("same", "more", "self"))))
        self.parts(other, with_rule(first, 1, condition=NEVER), [("new", "", ""), (0, "put", -1, "", -2)], ("ok",), None)

    def test_too_many_kinds(self):
        service = thousand(True)
        other = with_rule(service, 1, answer=("no",))
        self.assert_fails(TooManyKinds, None, difference, service, other)
        self.assert_fails(TooManyKinds, None, difference, other, service)
        self.parts(thousand(), with_rule(thousand(), 1, answer=("no",)), [("new",), (0, "ask")], ("yes",), ("no",))
        # What is parted at its opening reaches nothing.
        self.parts(service, with_rule(service, 0, answer=("no",)), [("new",)], ("ok", 0), ("no", 0))

    def test_no_talk_of_a_thousand_parts(self):
        service = thousand()
        self.alike(service, with_rules(service, service.rules[::-1]))

    def test_against_all_small_talks(self):
        lengths = {}
        for seed in range(160):
            dice = Dice(seed)
            first = dice.small(1 + seed % 2)
            second = dice.other(first)
            found = difference(first, second)
            most = min(3, len(found[0])) if found else 3 - seed % 2
            texts = {"", "a", "b"} | texts_of_talk(found[0] if found else [])
            expected = first_by_hand(first, second, texts, most, lambda request, given, answer, other: answer != other)
            if found is None or len(found[0]) > most:
                self.assertIsNone(expected)
            else:
                self.assertEqual(found, expected)
            lengths[found and len(found[0])] = lengths.get(found and len(found[0]), 0) + 1
        self.assertGreater(min(lengths[None], lengths[1], lengths[2], lengths[3]), 5)

    def test_against_long_talks(self):
        """A talk with several objects is answered alike as long as it is shorter than the difference."""
        parted = 0
        for seed in range(250):
            dice = Dice(seed)
            first = dice.small()
            second = dice.other(first)
            found = difference(first, second)
            if found is not None:
                check_talk(first.requests, found[0])
                answers = run_talk(first, found[0]), run_talk(second, found[0])
                self.assertEqual(answers[0][:-1], answers[1][:-1])
                self.assertEqual((answers[0][-1], answers[1][-1]), found[1:])
                self.assertNotEqual(*found[1:])
                parted += 1
            for _ in range(4):
                talk = dice.talk(first, 9)
                if found is None:
                    self.assertEqual(run_by_hand(first, talk), run_by_hand(second, talk))
                else:
                    talk = talk[:len(found[0]) - 1]
                    self.assertEqual(run_by_hand(first, talk), run_by_hand(second, talk))
        self.assertGreater(parted, 50)

    def test_new_list(self):
        found = difference(receipts(), receipts(ALWAYS))
        found[0].clear()
        self.assertEqual(len(difference(receipts(), receipts(ALWAYS))[0]), 3)


if __name__ == "__main__":
    unittest.main()
