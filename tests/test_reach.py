import unittest

from helper import (ALWAYS, CLEAR, KEEP, NEVER, STATES_401, Dice, HandHouse, TestCase, receipts, thousand, with_rule)
from talkalike.classes import check_patterns
from talkalike.difference import difference
from talkalike.errors import OtherRequests, TalkError, TooManyClasses, TooManyKinds, TooManyPatterns, TooManyStates
from talkalike.idle import can_forget, core, forgettable, idle_rules
from talkalike.live import live
from talkalike.moves import move, openings, requests_to
from talkalike.pairs import example_of, kind_of, known_after
from talkalike.papers import judge, paper
from talkalike.reach import MOST_KINDS, reach
from talkalike.saying import saying
from talkalike.search import first_talk
from talkalike.serves import serves
from talkalike.services import Service, patterns_of
from talkalike.suites import suite_of

KINDS = [("new",), ("put", "key"), ("get",)]
OPENING = (None, "new", ALWAYS, ("ok",), (CLEAR,), "on")
PUTTING = ("on", "put", ALWAYS, ("ok",), (("value", "key"),), "on")


def service_of(*rules, stations=("on", "off"), registers=("item",), kinds=KINDS):
    return Service(list(stations), list(registers), kinds, list(rules))


def same(held, station="on"):
    """A pair of two equal objects."""
    return ((station, list(held)), (station, list(held)))


class Case(TestCase):

    def reaches(self, first, second, pairs, extra=()):
        """The pairs are of all the kinds that are reached, each of another one."""
        patterns = list(dict.fromkeys(patterns_of([first, second]) + list(extra)))
        found = reach(first, second, extra)
        self.assertIs(type(found), dict)
        self.assertEqual(len(found), len(pairs))
        self.assertEqual(set(found), {kind_of(patterns, pair) for pair in pairs})
        for pair in pairs:
            self.assert_same(found[kind_of(patterns, pair)], example_of(patterns, pair))


class Reach(Case):

    def test_no_opening(self):
        for rules in ([], [OPENING[:2] + (NEVER,) + OPENING[3:], PUTTING], [PUTTING]):
            self.reaches(service_of(*rules), service_of(*rules), [])
        self.reaches(service_of(), service_of(OPENING), [])
        self.reaches(service_of(OPENING), service_of(), [])

    def test_openings_that_differ(self):
        self.reaches(service_of(OPENING), service_of(OPENING[:3] + (("no",),) + OPENING[4:]), [])

    def test_opening_alone(self):
        self.reaches(service_of(OPENING), service_of(OPENING), [same([None])])
        other = OPENING[:4] + ((("value", "self"),), "off")
        self.reaches(service_of(OPENING), service_of(other), [(("on", [None]), ("off", [0]))])
        self.reaches(service_of(other), service_of(OPENING), [(("off", [0]), ("on", [None]))])

    def test_services_of_other_forms(self):
        first = service_of((None, "new", ALWAYS, ("ok",), (), "here"), stations=["here"], registers=[])
        second = service_of((None, "new", ALWAYS, ("ok",), (CLEAR, ("fresh", 1), ("fresh", 1)), "there"),
                            stations=["gone", "there"], registers=["a", "b", "c"])
        self.reaches(first, second, [(("here", []), ("there", [None, ("own", 3), ("own", 3)]))])

    def test_receipts(self):
        pairs = [same([None], "open"), same([5], "closed"), same([None], "closed")]
        self.reaches(receipts(), receipts(), pairs)
        self.reaches(receipts(), receipts(ALWAYS), pairs)

    def test_refused_and_parted_requests(self):
        ask = ("on", "get", ALWAYS, ("got",), (("text", "a"),), "off")
        for rule in (None, ask[:2] + (NEVER,) + ask[3:], ask[:3] + (("no",),) + ask[4:], ("off",) + ask[1:]):
            rules = [OPENING] + [rule] * (rule is not None)
            # One of them refuses, or they part: no pair is behind the request.
            self.reaches(service_of(OPENING, ask), service_of(*rules), [same([None])])
            self.reaches(service_of(*rules), service_of(OPENING, ask), [same([None])])
        self.reaches(service_of(OPENING, ask), service_of(OPENING, ask), [same([None]), same(["a"], "off")])

    def test_values(self):
        service = service_of(OPENING, PUTTING)
        self.reaches(service, service, [same([None]), same(["x"]), same([0]), same([-4])])
        # Known ids: those of the receipts too, and the id 0 is another one.
        getting = ("on", "get", ALWAYS, ("got", ("fresh", 0)), (("fresh", 1),), "on")
        service = service_of(OPENING, PUTTING, getting)
        self.reaches(service, service, [same([None]), same(["x"]), same([0]), same([7]), same([("own", 0)])])

    def test_own_ids(self):
        getting = ("on", "get", ALWAYS, ("got",), (("fresh", 0),), "on")
        showing = ("on", "get", ALWAYS, ("got", ("fresh", 0)), (("fresh", 1),), "on")
        self.reaches(service_of(OPENING, getting), service_of(OPENING, getting), [same([None]), same([("own", 0)])])
        self.reaches(service_of(OPENING, showing), service_of(OPENING, getting), [same([None])])
        telling = ("on", "get", ALWAYS, ("got", ("value", "item")), (("value", "item"),), "on")
        opening = OPENING[:4] + ((("fresh", 0),), "on")
        self.reaches(service_of(opening, telling), service_of(opening, telling), [same([("own", 0)]), same([3])])

    def test_classes_of_texts(self):
        service = service_of(OPENING, ("on", "put", ("matches", "key", "a*"), ("ok",), (("value", "key"),), "on"))
        self.reaches(service, service, [same([None]), same(["ab"])])
        service = service_of(OPENING, PUTTING, ("on", "get", ("matches", "item", "a"), ("a",), (KEEP,), "on"))
        self.reaches(service, service, [same([None]), same(["a"]), same(["b"]), same([0]), same([-1])])

    def test_long_talk(self):
        stations = ["a", "b", "c", "d", "e", "f"]
        texts = ["x", "y", "z"]
        rules = [(None, "new", ALWAYS, ("ok",), (("text", "x"),), "a")]
        pairs = []
        for at, text in enumerate(texts):
            for one, other in zip(stations, stations[1:]):
                rules.append((one, "get", ("matches", "item", text), ("ok",), (KEEP,), other))
            pairs += [same([text], station) for station in stations]
            if text != "z":
                rules.append(("f", "get", ("matches", "item", text), ("ok",), (("text", texts[at + 1]),), "a"))
        service = service_of(*rules, stations=stations)
        self.reaches(service, service, pairs)
        talk, outcome = first_talk(service, service, lambda request, given, outcome: outcome[1:2] == (same(["z"], "f"),))
        self.assertEqual(talk, [("new",)] + [(0, "get")] * 17)

    def test_further_patterns(self):
        service = service_of(OPENING, PUTTING)
        rest = [same([None]), same([0]), same([-1])]
        self.reaches(service, service, rest + [same(["a"]), same(["b"])], ("a",))
        self.reaches(service, service, rest + [same(["a"]), same(["b"])], ["a", "a"])
        self.reaches(service, service, rest + [same([""]), same(["b"]), same(["ab"]), same(["a"])], ("a*", "?"))
        service = service_of(OPENING, ("on", "put", ALWAYS, ("ok",), (("text", "a"),), "on"))
        self.reaches(service, service, [same([None]), same(["a"])], ("b", "a"))

    def test_registers_together(self):
        kinds = [("new",), ("put", "key", "name")]
        opening = (None, "new", ALWAYS, ("ok",), (CLEAR, CLEAR), "on")
        putting = ("on", "put", ALWAYS, ("ok",), (("value", "key"), ("value", "name")), "on")
        service = service_of(opening, putting, registers=["item", "note"], kinds=kinds)
        pairs = [same([None, None])] + [same(held) for held in (
            ["a", "a"], ["a", "b"], ["a", 0], ["a", 1], [0, "a"], [0, 0], [0, 1], [1, "a"], [1, 0], [1, 1], [1, 2])]
        self.reaches(service, service, pairs)
        # The second one has the values the other way round.
        crossed = service_of(opening, putting[:4] + ((("value", "name"), ("value", "key")), "on"),
                             registers=["item", "note"], kinds=kinds)
        self.reaches(service, crossed, [pairs[0]] + [(one, ("on", one[1][::-1])) for one, _ in pairs[1:]])

    def test_1000_kinds(self):
        self.assertEqual(MOST_KINDS, 1000)
        found = reach(thousand(), thousand())
        self.assertEqual(len(found), 1000)
        held = [[None] + list("abcdefghi")] * 3
        patterns = patterns_of([thousand()])
        expected = [same([one, two, three]) for one in held[0] for two in held[1] for three in held[2]]
        self.assertEqual(set(found), {kind_of(patterns, pair) for pair in expected})
        self.assert_fails(TooManyKinds, None, reach, thousand(True), thousand(True))
        self.assert_fails(TooManyKinds, None, reach, thousand(True), with_rule(thousand(True), 1, answer=("no",)))
        # A pattern that parts no text that is held changes nothing; one that parts them does.
        self.assertEqual(len(reach(thousand(), thousand(), ("?",))), 1000)

    def test_new_dict(self):
        found = reach(receipts(), receipts())
        for kind in found:
            found[kind][0][1].append("changed")
        found.clear()
        self.reaches(receipts(), receipts(), [same([None], "open"), same([5], "closed"), same([None], "closed")])

    def test_closed_under_moves(self):
        """All kinds that moves lead to are there, and nothing else but what moves lead to."""
        several = 0
        for seed in range(200):
            dice = Dice(seed)
            first = dice.small()
            second = dice.other(first)
            patterns = patterns_of([first, second])
            found = reach(first, second)
            expected = {}
            queue = [(None, openings(first, second, patterns), 0)]
            while queue:
                pair, requests, given = queue.pop()
                for request in requests:
                    outcome = move(first, second, pair, request, given)
                    if outcome[0] == "go" and kind_of(patterns, outcome[1]) not in expected:
                        example = example_of(patterns, outcome[1])
                        expected[kind_of(patterns, example)] = example
                        queue.append((example, requests_to(first, second, patterns, example), known_after(example)))
            self.assertEqual(found, expected)
            several += len(found) > 4
        self.assertGreater(several, 30)

    def test_what_talks_lead_to(self):
        """Whatever a talk with one object leads to is of a kind that is reached."""
        met = 0
        for seed in range(150):
            dice = Dice(seed)
            first = dice.small()
            second = dice.other(first)
            patterns = patterns_of([first, second])
            found = reach(first, second)
            for _ in range(6):
                house, other = HandHouse(first), HandHouse(second)
                if house.ask(("new", "b")[:len(first.requests[0])]) != other.ask(("new", "b")[:len(first.requests[0])]):
                    continue
                for _ in range(6):
                    if not house.objects:
                        break
                    pair = (house.object_of(0), other.object_of(0))
                    self.assertEqual(found[kind_of(patterns, pair)], example_of(patterns, pair))
                    met += 1
                    kind = dice.dice.choice(first.requests[1:])
                    choices = ["", "a", "c", "bb", -1, -2] + list(range(house.given))
                    request = (0, kind[0]) + tuple(dice.dice.choice(choices) for _ in kind[1:])
                    if house.ask(request) != other.ask(request):
                        break
        self.assertGreater(met, 1000)


def putting_texts(*patterns):
    """A service that asks a value for these patterns."""
    rules = [OPENING] + [("on", "put", ("matches", "key", pattern), ("ok",), (KEEP,), "on") for pattern in patterns]
    return service_of(*rules)


PLAIN = ["a", "b", "c", "d", "e", "f", "g", "h", "i", "j", "k", "l"]
SMALL_OPEN = ["?", "??", "???", "????"]
# Four letters that may be in a text make 16 classes, and each of the nine plain patterns one more.
MANY_CLASSES = ["*a*", "*b*", "*c*", "*d*"] + PLAIN[4:] + ["m"]
# Each of these questions about two services raises the errors of point 7.1.
QUESTIONS = [reach, difference, serves, paper, lambda first, second: judge(first, second, []),
             lambda first, second: first_talk(first, second, lambda request, given, outcome: True)]


class Errors(Case):

    def fails(self, kind, first, second, extra=None):
        if extra is None:
            for question in QUESTIONS:
                self.assert_fails(kind, None, question, first, second)
        else:
            self.assert_fails(kind, None, reach, first, second, extra)
            self.assert_fails(kind, None, first_talk, first, second, lambda request, given, outcome: True, tuple(extra))

    def test_other_requests(self):
        first = service_of(OPENING)
        for kinds in ([("new",), ("put", "name"), ("get",)], [("new",), ("get",), ("put", "key")], KINDS[:2], KINDS[:1],
                      KINDS + [("other",)], [("new",), ("put", "key", "name"), ("get",)], [("new", "key")] + KINDS[1:],
                      [("new",), ("put",), ("get",)], [("new",), ("give", "key"), ("get",)]):
            second = service_of(OPENING, kinds=kinds)
            self.fails(OtherRequests, first, second)
            self.fails(OtherRequests, second, first)
            self.fails(OtherRequests, first, second, ["a"])

    def test_other_requests_come_first(self):
        other = [("new",), ("put", "key")]
        for patterns in (PLAIN + ["m"], SMALL_OPEN + ["*a"], STATES_401, MANY_CLASSES):
            with self.assertRaises(TalkError):
                check_patterns(patterns)
            self.fails(OtherRequests, putting_texts(*patterns), service_of(OPENING, kinds=other))
            self.fails(OtherRequests, service_of(OPENING, kinds=other), putting_texts(*patterns))
            self.fails(OtherRequests, service_of(), service_of(kinds=other), patterns)

    def test_too_many_patterns(self):
        for patterns in (PLAIN + ["m"], SMALL_OPEN + ["*"]):
            half = len(patterns) // 2
            self.fails(TooManyPatterns, putting_texts(*patterns), putting_texts())
            self.fails(TooManyPatterns, putting_texts(), putting_texts(*patterns))
            self.fails(TooManyPatterns, putting_texts(*patterns[:half]), putting_texts(*patterns[half:]))
            self.fails(TooManyPatterns, putting_texts(*patterns[:half]), putting_texts(), patterns[half:])
            self.fails(TooManyPatterns, putting_texts(), putting_texts(), patterns)
        # Each pattern counts once.
        for question in QUESTIONS:
            question(putting_texts(*PLAIN), putting_texts(*PLAIN[::-1]))
        reach(putting_texts(*PLAIN), putting_texts(), PLAIN + PLAIN)
        reach(putting_texts(*SMALL_OPEN), putting_texts(*SMALL_OPEN), SMALL_OPEN)
        # Thirteen plain ones, and too many states too.
        self.fails(TooManyPatterns, putting_texts(*STATES_401, *PLAIN), putting_texts())

    def test_told_texts_count(self):
        telling = [("on", "get", ALWAYS, ("ok", ("text", text)), (("text", text + text),), "on") for text in PLAIN[:6]]
        service = service_of(OPENING, *telling)
        for question in QUESTIONS:
            question(service, service)
        self.fails(TooManyPatterns, service, putting_texts("m"))

    def test_too_many_states(self):
        self.fails(TooManyStates, putting_texts(*STATES_401), putting_texts())
        self.fails(TooManyStates, putting_texts(*STATES_401[:5]), putting_texts(*STATES_401[5:]))
        self.fails(TooManyStates, putting_texts(*STATES_401[:5]), putting_texts(), STATES_401[5:])

    def test_too_many_classes(self):
        self.fails(TooManyClasses, putting_texts(*MANY_CLASSES), putting_texts())
        self.fails(TooManyClasses, putting_texts(*MANY_CLASSES[:3]), putting_texts(*MANY_CLASSES[3:]))
        self.fails(TooManyClasses, putting_texts(*MANY_CLASSES[:3]), putting_texts(*MANY_CLASSES[3:6]), MANY_CLASSES[6:])
        for question in QUESTIONS:
            question(putting_texts(*MANY_CLASSES[:-1]), putting_texts(*MANY_CLASSES[:4]))

    def test_too_many_kinds_comes_last(self):
        service = thousand(True)
        self.fails_kinds(service, with_rule(service, 1, answer=("no",)))
        # None of its questions is answered, though a short talk would.
        self.fails(OtherRequests, service, service_of(OPENING))
        self.assert_fails(TooManyPatterns, None, reach, service, service, tuple("jklm"))
        self.assert_fails(TooManyClasses, None, reach, service, service, ("*a*", "*b*", "*c*", "*d*"))

    def fails_kinds(self, first, second):
        for question in QUESTIONS[:4] + QUESTIONS[5:]:
            self.assert_fails(TooManyKinds, None, question, first, second)

    def test_too_many_kinds_everywhere(self):
        service = thousand(True)
        self.assert_fails(TooManyKinds, None, saying, service, ("word", "ok"))
        self.assert_fails(TooManyKinds, None, idle_rules, service)
        self.assert_fails(TooManyKinds, None, core, service)
        self.assert_fails(TooManyKinds, None, can_forget, service, [])
        self.assert_fails(TooManyKinds, None, forgettable, service)
        self.assert_fails(TooManyKinds, None, live, service, service, (["on", "off"], [("held", name) for name in service.registers]))


if __name__ == "__main__":
    unittest.main()
