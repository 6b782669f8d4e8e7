import copy
import itertools
import unittest

from helper import ALWAYS, CLEAR, KEEP, NEVER, STATES_401, Dice, TestCase, locks, receipts, thousand, with_rule
from talkalike.difference import difference
from talkalike.errors import BadPair, OtherRequests, TooManyKinds, TooManyPatterns, TooManyStates
from talkalike.pairs import alike, kind_of, pair_key
from talkalike.papers import judge, paper
from talkalike.reach import reach
from talkalike.services import Service, patterns_of, with_rules

KINDS = [("new",), ("put", "key"), ("get",)]
OPENING = (None, "new", ALWAYS, ("ok",), (CLEAR,), "on")
PUTTING = ("on", "put", ALWAYS, ("ok",), (("value", "key"),), "on")


def service_of(*rules, kinds=KINDS):
    return Service(["on", "off"], ["item"], kinds, list(rules))


def same(held, station="on"):
    return ((station, list(held)), (station, list(held)))


RECEIPTS = [same([None], "open"), same([None], "closed"), same([1], "closed")]


class Paper(TestCase):

    def test_receipts(self):
        self.assert_same(paper(receipts(), receipts()), RECEIPTS)
        self.assertIsNone(paper(receipts(), receipts(ALWAYS)))
        self.assertIsNone(paper(receipts(ALWAYS), receipts()))

    def test_no_pair(self):
        self.assert_same(paper(service_of(), service_of()), [])
        self.assert_same(paper(service_of(), service_of(OPENING[:2] + (NEVER,) + OPENING[3:])), [])
        self.assertIsNone(paper(service_of(), service_of(OPENING)))

    def test_order_of_pairs(self):
        service = service_of(OPENING, PUTTING, ("on", "get", ("matches", "item", "b"), ("ok",), (("fresh", 0),), "off"),
                             ("on", "get", ("matches", "item", "*"), ("ok",), (KEEP,), "off"),
                             ("off", "get", ALWAYS, ("ok", ("value", "item")), (KEEP,), "off"))
        held = [None, "", "b", 0, 1]
        expected = [same([one]) for one in held] + [same([one], "off") for one in ("", 1, ("own", 0))]
        self.assert_same(paper(service, service), expected)

    def test_none_exactly_if_parted(self):
        papers = 0
        for seed in range(250):
            dice = Dice(seed)
            first = dice.small()
            second = dice.other(first)
            found = paper(first, second)
            self.assertEqual(found is None, difference(first, second) is not None)
            if found is not None:
                keys = [pair_key(first, second, pair) for pair in found]
                self.assertTrue(all(one < other for one, other in zip(keys, keys[1:])))
                self.assertEqual(sorted(keys), sorted(pair_key(first, second, pair) for pair in reach(first, second).values()))
                self.assertIs(judge(first, second, found), True)
                papers += len(found) > 2
        self.assertGreater(papers, 50)

    def test_too_many_kinds(self):
        service = thousand(True)
        self.assert_fails(TooManyKinds, None, paper, service, service)
        self.assert_fails(TooManyKinds, None, paper, service, with_rule(service, 1, answer=("no",)))
        found = paper(thousand(), thousand())
        self.assertEqual(found, [same(held) for held in itertools.product([None] + list("abcdefghi"), repeat=3)])

    def test_new_list(self):
        found = paper(receipts(), receipts())
        found[0][0][1].append("changed")
        found.clear()
        self.assert_same(paper(receipts(), receipts()), RECEIPTS)


class Judge(TestCase):

    def judges(self, first, second, pairs, expected):
        before = copy.deepcopy(pairs)
        self.assertIs(judge(first, second, pairs), expected)
        self.assert_same(pairs, before)

    def test_papers(self):
        for service in (receipts(), locks(), service_of(OPENING, PUTTING)):
            pairs = paper(service, service)
            for order in itertools.permutations(pairs):
                self.judges(service, service, list(order), True)
            self.judges(service, service, pairs + pairs, True)
            for index in range(len(pairs)):
                self.judges(service, service, pairs[:index] + pairs[index + 1:], False)

    def test_other_pairs_of_the_kinds(self):
        self.judges(receipts(), receipts(), [same([None], "closed"), same([-7], "closed"), same([None], "open")], True)
        self.judges(receipts(), receipts(), [same([None], "closed"), same([10 ** 20], "closed"), same([None], "open")], True)
        self.judges(receipts(), receipts(), [same([None], "closed"), same([0], "closed"), same([None], "open")], False)
        own = (("open", [("own", 4)]), ("open", [("own", 17)]))
        self.judges(locks(), locks(), [own, same([3], "open"), same([None], "open")], True)
        service = service_of(OPENING, ("on", "put", ("matches", "key", "a*"), ("ok",), (("value", "key"),), "on"))
        self.judges(service, service, [same([None]), same(["abcabcabcabcabc"])], True)
        self.judges(service, service, [same([None]), same(["b"])], False)

    def test_empty_list(self):
        self.judges(service_of(), service_of(), [], True)
        self.judges(service_of(), service_of(PUTTING), [], True)
        self.judges(service_of(OPENING), service_of(OPENING), [], False)
        self.judges(service_of(OPENING), service_of(), [], False)
        kinds = [("new", "name")] + KINDS[1:]
        for condition in (("matches", "name", "zz"), ("not", ("matches", "name", "*")), ("matches", "name", "")):
            rule = (None, "new", condition, ("ok",), (CLEAR,), "on")
            self.judges(service_of(rule, kinds=kinds), service_of(rule, kinds=kinds), [], False)
        rule = (None, "new", ("same", "name", "self"), ("ok",), (CLEAR,), "on")
        self.judges(service_of(rule, kinds=kinds), service_of(rule, kinds=kinds), [], True)

    def test_pairs_that_no_talk_reaches(self):
        self.judges(receipts(), receipts(), RECEIPTS + [same(["a"], "closed")], True)
        self.judges(receipts(), receipts(), RECEIPTS + [same([0], "open")], True)
        # What follows from such a pair counts.
        self.judges(receipts(), receipts(), RECEIPTS + [(("open", [None]), ("closed", [None]))], False)
        self.judges(receipts(), receipts(), RECEIPTS + [(("closed", [1]), ("closed", [2]))], False)
        getting = ("off", "get", ALWAYS, ("ok",), (KEEP,), "on")
        service = service_of(OPENING, getting)
        self.judges(service, service, [same([None]), same([None], "off")], True)
        self.judges(service, service, [same([None]), same(["a"], "off")], False)
        self.judges(service, service, [same([None]), same(["a"], "off"), same(["b"])], True)
        self.judges(service, service, [same(["a"], "off"), same(["b"])], False)

    def test_parted_services(self):
        self.judges(receipts(), receipts(ALWAYS), RECEIPTS, False)
        self.judges(receipts(), receipts(ALWAYS), RECEIPTS[:1], False)
        self.judges(receipts(ALWAYS), receipts(), RECEIPTS, False)
        opening = with_rule(receipts(), 0, answer=("no",))
        self.judges(receipts(), opening, RECEIPTS, False)

    def test_requests_that_matter(self):
        """Each place of a request counts: 0, what is held, the first texts, a made-up id."""
        for condition in (("same", "key", "self"), ("same", "key", "item"), ("matches", "key", "b?"),
                          ("not", ("or", ("matches", "key", "*"), ("same", "key", "self"), ("same", "key", "item")))):
            rule = ("on", "put", condition, ("ok",), (KEEP,), "off")
            service = service_of(OPENING, rule)
            self.judges(service, service, [same([None]), same([5])], False)
            self.judges(service, service, [same([None]), same([5]), same([5], "off"), same([None], "off")], True)
            self.judges(service, with_rules(service, [OPENING]), [same([None]), same([5]), same([5], "off"), same([None], "off")], False)

    def test_bad_pairs(self):
        good = RECEIPTS[0]
        bad = ["open", None, 0, True, [], (), good + good, list(good), (good[0],), ("open", [None]), same([None], "gone"), same([], "open"),
               same([None, None], "open"), same([True], "open"), same([("own", -1)], "open"), same([("own",)], "open"), same(["A"], "open"),
               same([[]], "open"), (good[0], ("open", (None,))), (["open", [None]], good[1])]
        for one in bad:
            for pairs in ([one], [good, one], [good, good, one, one], RECEIPTS + [one, "more"]):
                place = len([pair for pair in pairs[:3] if pair in RECEIPTS]) if one not in RECEIPTS else None
                self.assert_fails(BadPair, place, judge, receipts(), receipts(), pairs)
                self.assert_fails(BadPair, place, judge, receipts(), receipts(ALWAYS), pairs)
        # A pair of the services in the other order.
        first, second = receipts(), with_rules(Service(["shut", "open"], ["a", "b"], receipts().requests, []), [])
        pair = (("closed", [None]), ("shut", [None, None]))
        self.assertIs(judge(first, second, [pair]), False)
        self.assert_fails(BadPair, 0, judge, second, first, [pair])
        self.assert_fails(BadPair, 1, judge, second, first, [pair[::-1], pair])

    def test_order_of_errors(self):
        for pairs in ([], ["bad"]):
            self.assert_fails(OtherRequests, None, judge, receipts(), service_of(), pairs)
            many = [("on", "put", ("matches", "key", letter), ("ok",), (KEEP,), "on") for letter in "abcdefghijklm"]
            self.assert_fails(TooManyPatterns, None, judge, service_of(*many), service_of(), pairs)
            many = [("on", "put", ("matches", "key", pattern), ("ok",), (KEEP,), "on") for pattern in STATES_401]
            self.assert_fails(TooManyStates, None, judge, service_of(*many), service_of(), pairs)
        # An error of the list comes before what is asked of it.
        self.assert_fails(BadPair, 0, judge, service_of(OPENING), service_of(), ["bad"])

    def test_never_too_many_kinds(self):
        service = thousand(True)
        pairs = [same(held) for held in itertools.product([None] + list("abcdefghi"), repeat=3)]
        self.judges(service, service, [], False)
        self.judges(service, service, pairs, False)
        self.judges(service, service, pairs + [same([None] * 3, "off")], True)
        self.assertEqual(len({kind_of(patterns_of([service]), pair) for pair in pairs}), 1000)

    def test_closed_lists_mean_no_difference(self):
        """Point 8.4: whatever list is judged closed, no talk parts the services."""
        closed = 0
        for seed in range(200):
            dice = Dice(seed)
            first = dice.small()
            second = dice.other(first)
            pairs = list(reach(first, second).values())
            patterns = patterns_of([first, second])
            self.assertIs(judge(first, second, pairs), difference(first, second) is None)
            if pairs:
                # The pairs of a kind left out: something leads to them, an opening or a request to another pair.
                left = dice.dice.choice(pairs)
                self.assertIs(judge(first, second, [pair for pair in pairs if not alike(patterns, pair, left)]), False)
                closed += difference(first, second) is None
        self.assertGreater(closed, 100)


if __name__ == "__main__":
    unittest.main()
