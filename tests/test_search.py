import copy
import unittest

from helper import (ALWAYS, CLEAR, KEEP, NEVER, Dice, TestCase, first_by_hand, locks, receipts, texts_of_talk, thousand,
                    with_rule)
from talkalike.errors import TooManyKinds
from talkalike.moves import move
from talkalike.pairs import kind_of
from talkalike.reach import reach
from talkalike.search import first_talk
from talkalike.services import Service, patterns_of
from talkalike.talks import is_opening

STATIONS = ["on", "off"]


def service_of(*rules, kinds=(("new",), ("put", "key"), ("get",)), registers=("item",)):
    return Service(STATIONS, list(registers), list(kinds), list(rules))


OPENING = (None, "new", ALWAYS, ("ok",), (CLEAR,), "on")
NAMED = (("new", "name"), ("put", "key"), ("get",))


def nothing(request, given, outcome):
    return False


def anything(request, given, outcome):
    return True


def goes(request, given, outcome):
    return outcome[0] == "go"


def refused(request, given, outcome):
    return outcome == ("refused",)


def parted(request, given, outcome):
    return outcome[0] == "part"


def word(name):
    """An end: the answer has this word."""
    return lambda request, given, outcome: outcome[0] == "go" and outcome[3][0] == name


class Case(TestCase):

    def first(self, first, second, ends, expected, extra=()):
        self.assert_same(first_talk(first, second, ends, extra), expected)


class FirstTalk(Case):

    def test_nothing_ends(self):
        for service in (receipts(), locks(), service_of(), service_of(OPENING)):
            self.first(service, service, nothing, None)
        self.first(receipts(), receipts(), parted, None)
        self.first(receipts(), receipts(), word("never"), None)
        self.first(service_of(), service_of(), goes, None)

    def test_first_opening(self):
        pair = (("open", [None]), ("open", [None]))
        self.first(receipts(), receipts(), anything, ([("new",)], ("go", pair, 1, ("ok", 0))))
        self.first(receipts(), receipts(), word("ok"), ([("new",)], ("go", pair, 1, ("ok", 0))))
        self.first(service_of(), service_of(), anything, ([("new",)], ("refused",)))
        self.first(service_of(), service_of(OPENING), anything, ([("new",)], ("part", None, ("ok", 0))))
        self.first(service_of(OPENING), service_of(), parted, ([("new",)], ("part", ("ok", 0), None)))
        self.first(locks(), locks(), anything, ([("new", "")], ("go", (("open", [("own", 0)]),) * 2, 1, ("made", 0, ""))))

    def test_other_openings(self):
        """The openings in order: texts, then made-up ids."""
        naming = (None, "new", ("matches", "name", "b*"), ("bee",), (("value", "name"),), "on")
        service = service_of(naming, OPENING, kinds=NAMED)
        self.first(service, service, word("bee"), ([("new", "b")], ("go", (("on", ["b"]),) * 2, 1, ("bee", 0))))
        self.first(service, service, lambda request, given, outcome: request[1] == -1,
                   ([("new", -1)], ("go", (("on", [None]),) * 2, 1, ("ok", 0))))
        refusing = service_of((None, "new", ("not", ("matches", "name", "*")), ("ok",), (("value", "name"),), "on"), kinds=NAMED)
        self.first(refusing, refusing, goes, ([("new", -1)], ("go", (("on", [-1]),) * 2, 1, ("ok", 0))))

    def test_several_requests(self):
        self.first(receipts(), receipts(), word("receipt"), (
            [("new",), (0, "close")], ("go", (("closed", [1]),) * 2, 2, ("receipt", 1))))
        self.first(receipts(), receipts(), word("claimed"), (
            [("new",), (0, "close"), (0, "claim", 1)], ("go", (("closed", [None]),) * 2, 2, ("claimed",))))
        self.first(receipts(), receipts(ALWAYS), word("claimed"), (
            [("new",), (0, "close"), (0, "claim", 1)], ("go", (("closed", [None]),) * 2, 2, ("claimed",))))
        self.first(receipts(), receipts(ALWAYS), parted, (
            [("new",), (0, "close"), (0, "claim", "")], ("part", None, ("claimed",))))
        self.first(locks(), locks(), word("taken"), (
            [("new", ""), (0, "show"), (0, "take", 1)], ("go", (("open", [None]),) * 2, 3, ("taken",))))

    def test_refused_requests(self):
        self.first(receipts(), receipts(), refused, ([("new",), (0, "claim", "")], ("refused",)))
        # A refused request is never ahead of the last one.
        self.first(locks(), locks(), lambda request, given, outcome: outcome == ("refused",) and request[-1] == -1,
                   ([("new", ""), (0, "take", -1)], ("refused",)))
        waiting = ("on", "get", ALWAYS, ("got",), (("text", "a"),), "off")
        service = service_of(OPENING, waiting)
        self.first(service, service, lambda request, given, outcome: request == (0, "get") and outcome == ("refused",),
                   ([("new",), (0, "get"), (0, "get")], ("refused",)))

    def test_first_of_several(self):
        """Two ways of one length to the same word: kinds, texts, made-up ids, known ids in their order."""
        putting = ("on", "put", ALWAYS, ("ok",), (("value", "key"),), "on")
        for condition, value in ((("matches", "item", "*"), ""), (("matches", "item", "?"), "a"), (("matches", "item", "?b*"), "ab"),
                                 (("same", "item", "self"), 0), (("not", ("or", ("matches", "item", "*"), ("empty", "item"))), -1)):
            service = service_of(OPENING, putting, ("on", "get", condition, ("found",), (KEEP,), "on"))
            found = (("on", [value]),) * 2
            self.first(service, service, word("found"), ([("new",), (0, "put", value), (0, "get")], ("go", found, 1, ("found",))))
        going = ("on", "get", ALWAYS, ("ok",), (KEEP,), "off")
        ending = ("off", "get", ALWAYS, ("found",), (KEEP,), "off")
        service = service_of(OPENING, ("on", "put", ALWAYS, ("ok",), (KEEP,), "off"), going, ending)
        self.first(service, service, word("found"), (
            [("new",), (0, "put", ""), (0, "get")], ("go", (("off", [None]),) * 2, 1, ("found",))))
        service = service_of(OPENING, going, ending, ("off", "put", ALWAYS, ("found",), (KEEP,), "off"))
        self.first(service, service, word("found"), (
            [("new",), (0, "get"), (0, "put", "")], ("go", (("off", [None]),) * 2, 1, ("found",))))

    def test_shorter_comes_first(self):
        rules = [OPENING, ("on", "put", ALWAYS, ("ok",), (("value", "key"),), "off"),
                 ("off", "put", ("same", "key", "item"), ("found",), (KEEP,), "off"),
                 ("on", "get", ALWAYS, ("found",), (KEEP,), "on")]
        service = service_of(*rules)
        self.first(service, service, word("found"), ([("new",), (0, "get")], ("go", (("on", [None]),) * 2, 1, ("found",))))
        service = service_of(*rules[:3])
        self.first(service, service, word("found"), (
            [("new",), (0, "put", ""), (0, "put", "")], ("go", (("off", [""]),) * 2, 1, ("found",))))

    def test_made_up_ids_and_texts(self):
        rules = [OPENING[:4] + ((CLEAR, CLEAR), "on"),
                 ("on", "put", ("and", ("not", ("matches", "key", "*")), ("empty", "item")), ("ok",), (("value", "key"), KEEP), "on"),
                 ("on", "put", ("and", ("not", ("same", "key", "self")), ("not", ("same", "key", "item"))),
                  ("ok",), (KEEP, ("value", "key")), "on"),
                 ("on", "get", ("and", ("not", ("empty", "note")), ("not", ("matches", "note", "*"))), ("found",), (KEEP, KEEP), "off")]
        service = service_of(*rules, registers=["item", "note"])
        self.first(service, service, word("found"), (
            [("new",), (0, "put", -1), (0, "put", -2), (0, "get")], ("go", (("off", [-1, -2]),) * 2, 1, ("found",))))
        texts = service_of(rules[0], ("on", "put", ALWAYS, ("ok",), (("value", "key"), ("value", "item")), "on"),
                           ("on", "get", ("and", ("matches", "item", "*"), ("matches", "note", "*"), ("not", ("same", "item", "note"))),
                            ("found", ("value", "item"), ("value", "note")), (KEEP, KEEP), "off"), registers=["item", "note"])
        self.first(texts, texts, word("found"), (
            [("new",), (0, "put", ""), (0, "put", "a"), (0, "get")], ("go", (("off", ["a", ""]),) * 2, 1, ("found", "a", ""))))

    def test_what_ends_is_asked(self):
        """ends gets a request, the number of ids that were given, and what move returns."""
        asked = []

        def ends(request, given, outcome):
            asked.append((request, given, copy.deepcopy(outcome)))
            return False

        first, second = receipts(), receipts(ALWAYS)
        first_talk(first, second, ends)
        self.assertIn((("new",), 0, move(first, second, None, ("new",), 0)), asked)
        self.assertIn(((0, "close"), 1, ("go", (("closed", [1]), ("closed", [1])), 2, ("receipt", 1))), asked)
        self.assertIn(((0, "claim", 1), 2, ("go", (("closed", [None]), ("closed", [None])), 2, ("claimed",))), asked)
        self.assertIn(((0, "claim", ""), 2, ("part", None, ("claimed",))), asked)
        self.assertIn(((0, "claim", -1), 1, ("refused",)), asked)
        for request, given, outcome in asked:
            self.assertEqual((type(request), type(given), type(outcome)), (tuple, int, tuple))

    def test_opening_behind_other_requests(self):
        def later(request, given, outcome):
            return is_opening(request) and given > 0

        first = receipts()
        self.first(first, first, later, ([("new",), ("new",)], ("go", (("open", [None]),) * 2, 2, ("ok", 1))))
        own = service_of((None, "new", ALWAYS, ("ok", ("fresh", 0)), (("value", "self"),), "on"))
        self.first(own, own, later, ([("new",), ("new",)], ("go", (("on", [2]),) * 2, 4, ("ok", 2, 3))))
        # The services are parted by the first opening: there is no later one.
        self.first(first, with_rule(first, 0, answer=("no",)), later, None)
        never = service_of()
        self.first(never, never, later, None)
        # An opening that ends comes before requests to the object, and behind all first openings.
        self.first(first, first, lambda request, given, outcome: given > 0,
                   ([("new",), ("new",)], ("go", (("open", [None]),) * 2, 2, ("ok", 1))))
        self.first(first, first, lambda request, given, outcome: later(request, given, outcome) or word("receipt")(request, given, outcome),
                   ([("new",), ("new",)], ("go", (("open", [None]),) * 2, 2, ("ok", 1))))

    def test_values_of_an_opening_behind(self):
        naming = (None, "new", ALWAYS, ("ok", ("value", "name")), (("value", "name"),), "on")
        service = service_of(naming, kinds=NAMED)
        for value in ("", -1, 0):
            talk = [("new", ""), ("new", value)]
            self.first(service, service, lambda request, given, outcome: given and request == ("new", value),
                       (talk, ("go", (("on", [value]),) * 2, 2, ("ok", 1, value))))

    def test_each_kind(self):
        """The first talk that leads to a kind, checked by moves from opening to end."""
        talks = 0
        for seed in range(60):
            dice = Dice(seed)
            first = dice.small()
            second = dice.other(first)
            patterns = patterns_of([first, second])
            for kind in reach(first, second):

                def ends(request, given, outcome):
                    return outcome[0] == "go" and kind_of(patterns, outcome[1]) == kind

                talk, outcome = first_talk(first, second, ends)
                pair, given = None, 0
                for request in talk:
                    found = move(first, second, None if is_opening(request) else pair, request, given)
                    _, pair, given, _ = found
                self.assertEqual(found, outcome)
                self.assertEqual(kind_of(patterns, pair), kind)
                talks += len(talk) > 2
        self.assertGreater(talks, 20)

    def test_against_all_small_talks(self):
        """The end asks for the answers alone: a word, and whether both answer it."""
        lengths = {}
        for seed in range(100):
            dice = Dice(seed)
            first = dice.small(1)
            second = dice.other(first)
            wanted = dice.dice.choice(["ok", "no"])
            count = dice.dice.choice([1, 2, 3])

            def by_answer(request, given, answer, other):
                return answer == other is not None and answer[0] == wanted and len(answer) == count and not is_opening(request)

            found = first_talk(first, second, lambda request, given, outcome: outcome[0] == "go" and by_answer(
                request, given, outcome[3], outcome[3]))
            most = 3 if found is None else min(3, len(found[0]))
            texts = {"", "a", "b"} | texts_of_talk(found[0] if found else [])
            expected = first_by_hand(first, second, texts, most, by_answer)
            lengths[found and len(found[0])] = lengths.get(found and len(found[0]), 0) + 1
            if expected is None:
                self.assertTrue(found is None or len(found[0]) > most)
            else:
                self.assertEqual((found[0], found[1][3]), expected[:2])
        self.assertGreater(min(lengths[None], lengths[2], lengths[3]), 4)

    def test_further_patterns(self):
        """They count as patterns of the services: ends may ask for them."""
        putting = ("on", "put", ALWAYS, ("ok", ("value", "key")), (KEEP,), "on")
        service = service_of(OPENING, putting)
        for pattern, text in (("a", "a"), ("?b*", "ab"), ("zz", "zz"), ("", "")):
            self.first(service, service, lambda request, given, outcome: request[1:] == ("put", text),
                       ([("new",), (0, "put", text)], ("go", (("on", [None]),) * 2, 1, ("ok", text))), (pattern,))

    def test_long_talk(self):
        stations = ["a", "b", "c", "d", "e", "f"]
        rules = [(None, "new", ALWAYS, ("ok",), (CLEAR,), "a")]
        rules += [(one, "get", ALWAYS, ("ok",), (KEEP,), other) for one, other in zip(stations, stations[1:])]
        rules += [("f", "get", ("empty", "item"), ("ok",), (("text", "a"),), "a"), ("f", "get", ALWAYS, ("end",), (KEEP,), "f")]
        service = Service(stations, ["item"], [("new",), ("get",)], rules)
        self.first(service, service, word("end"), ([("new",)] + [(0, "get")] * 12, ("go", (("f", ["a"]),) * 2, 1, ("end",))))

    def test_too_many_kinds(self):
        service = thousand(True)
        for ends in (anything, nothing, word("yes")):
            self.assert_fails(TooManyKinds, None, first_talk, service, service, ends)
        found = first_talk(thousand(), thousand(), word("yes"))
        self.assertEqual(found, ([("new",), (0, "ask")], ("go", (("on", [None] * 3),) * 2, 1, ("yes",))))

    def test_values_that_no_rule_names(self):
        """ends may ask for the request, so values count although no rule names them."""
        service = service_of(OPENING, ("on", "put", NEVER, ("ok",), (KEEP,), "on"))
        for value in ("", -1, 0):
            self.first(service, service, lambda request, given, outcome: request[1:] == ("put", value),
                       ([("new",), (0, "put", value)], ("refused",)))

    def test_new_lists(self):
        found = first_talk(receipts(), receipts(), anything)
        found[0].append("changed")
        found[1][1][0][1].append("changed")
        self.first(receipts(), receipts(), anything, ([("new",)], ("go", (("open", [None]),) * 2, 1, ("ok", 0))))


if __name__ == "__main__":
    unittest.main()
