import itertools
import unittest

from helper import ALWAYS, CLEAR, KEEP, NEVER, STATES_401, Dice, TestCase, locks, receipts, run_by_hand
from talkalike.difference import difference
from talkalike.errors import (BadRequest, NoSuchChange, NotGiven, TooManyChanges, TooManyKinds, TooManyPatterns, TooManyStates,
                              UnknownName)
from talkalike.services import Service, same_service, with_rules
from talkalike.suites import changed, changes_of, part_in, suite_of

KINDS = [("new",), ("put", "key"), ("get",)]
OPENING = (None, "new", ALWAYS, ("ok",), (CLEAR,), "on")


def service_of(*rules, registers=("item",), stations=("on", "off")):
    return Service(list(stations), list(registers), KINDS, list(rules))


def rule_of(condition=ALWAYS, answer=("ok",), turn=(KEEP,), behind="on", name="put", station="on"):
    return station, name, condition, answer, turn, behind


def negations(condition):
    """The numbers of the atoms of the last rule whose negation is a single change."""
    service = service_of(OPENING, rule_of(condition))
    return [change[2] for change in changes_of(service) if change[0] == "negate"]


def nested(depth, inside):
    return inside if depth == 0 else ("and", nested(depth - 1, inside))


class ChangesOf(TestCase):

    def changes(self, service, word, expected):
        self.assert_same([change for change in changes_of(service) if change[0] == word], [(word,) + one for one in expected])

    def test_receipts(self):
        self.assert_same(changes_of(receipts()), [
            ("leave", 0), ("leave", 1), ("leave", 2), ("swap", 0), ("swap", 1),
            ("say", 0, "receipt"), ("say", 0, "claimed"), ("say", 1, "ok"), ("say", 1, "claimed"), ("say", 2, "ok"), ("say", 2, "receipt"),
            ("go", 0, "closed"), ("go", 1, "open"), ("go", 2, "open"), ("negate", 2, 0)])

    def test_few_rules(self):
        self.assert_same(changes_of(service_of()), [])
        self.assert_same(changes_of(service_of(stations=["on"])), [])
        self.assert_same(changes_of(service_of(OPENING, stations=["on"])), [("leave", 0)])
        self.assert_same(changes_of(service_of(OPENING)), [("leave", 0), ("go", 0, "off")])

    def test_equal_neighbours(self):
        service = service_of(OPENING, rule_of(), rule_of(), stations=["on"])
        self.assert_same(changes_of(service), [("leave", 0), ("leave", 1), ("leave", 2), ("swap", 0), ("swap", 1)])

    def test_words(self):
        rules = [rule_of(answer=(word,)) for word in ("b", "a", "b", "c")]
        self.changes(service_of(*rules), "say", [
            (0, "a"), (0, "c"), (1, "b"), (1, "c"), (2, "a"), (2, "c"), (3, "b"), (3, "a")])
        # Words of all rules, and each word once.
        self.changes(service_of(OPENING, rule_of(answer=("b",)), rule_of(answer=("b",), name="get")), "say", [
            (0, "b"), (1, "ok"), (2, "ok")])

    def test_sources(self):
        name, key, own = ("value", "item"), ("value", "key"), ("fresh", 0)
        service = service_of(OPENING[:3] + (("ok", ("text", "zz")),) + OPENING[4:], rule_of(answer=("ok", key, own, key)),
                             rule_of(answer=("ok", ("text", "a"))), rule_of(answer=("ok",)), rule_of(answer=("ok", name, own), name="get"))
        self.changes(service, "show", [
            (1, 0, own), (1, 0, ("text", "a")), (1, 1, key), (1, 1, ("text", "a")), (1, 2, own), (1, 2, ("text", "a")),
            (2, 0, key), (2, 0, own), (4, 0, own), (4, 1, name)])

    def test_lines(self):
        key, own = ("value", "key"), ("fresh", 1)
        opening = OPENING[:4] + ((CLEAR, ("text", "zz")), "on")
        service = service_of(opening, rule_of(turn=(own, key), answer=("ok", ("fresh", 2))), rule_of(turn=(own, KEEP)),
                             rule_of(turn=(KEEP, KEEP), name="get"), registers=["item", "note"])
        self.changes(service, "hold", [
            (0, 0, ("text", "zz")), (0, 1, CLEAR),
            (1, 0, key), (1, 0, KEEP), (1, 1, own), (1, 1, KEEP), (2, 0, key), (2, 0, KEEP), (2, 1, own), (2, 1, key)])

    def test_stations(self):
        service = service_of(OPENING, rule_of(behind="end"), stations=["off", "on", "end"])
        self.changes(service, "go", [(0, "off"), (0, "end"), (1, "off"), (1, "on")])

    def test_atoms(self):
        condition = ("or", ("and", ("empty", "item"), ALWAYS), ("not", ("same", "key", "self")), NEVER, ("matches", "key", "a*"), ("empty", "item"))
        self.changes(service_of(rule_of(condition), rule_of(("matches", "key", "")), rule_of(NEVER)), "negate", [
            (0, 0), (0, 1), (0, 2), (0, 3), (1, 0)])

    def test_bounds_of_depth(self):
        atom = ("empty", "item")
        for depth, expected in ((0, [0]), (4, [0]), (5, [])):
            self.assertEqual(negations(nested(depth, atom)), expected)
            self.assertEqual(negations(nested(depth, ("not", atom))) if depth < 5 else [], expected if depth < 4 else [])
        # Only the atom that stands too deep is left out.
        self.assertEqual(negations(("and", atom, nested(4, atom), ("or", atom))), [0, 2])

    def test_bounds_of_size(self):
        atom = ("empty", "item")
        self.assertEqual(negations(("and",) + (atom,) * 18), list(range(18)))
        self.assertEqual(negations(("and",) + (atom,) * 19), [])
        self.assertEqual(negations(("and",) + (ALWAYS,) * 18 + (atom,)), [])
        self.assertEqual(negations(("and",) + (ALWAYS,) * 17 + (atom,)), [0])

    def test_new_list(self):
        changes_of(receipts()).clear()
        self.assertEqual(len(changes_of(receipts())), 15)


class Changed(TestCase):

    def changes(self, service, change, rules):
        before = service.rules
        self.assertTrue(same_service(changed(service, change), with_rules(service, rules)))
        self.assertEqual(service.rules, before)

    def test_each_word(self):
        condition = ("or", ("and", ("empty", "item"), ("always",)), ("not", ("same", "key", "self")), ("matches", "key", "a*"))
        answer, turn = ("yes", ("value", "key"), ("fresh", 0)), (("value", "item"), ("fresh", 0))
        one = rule_of(condition, answer, turn)
        opening = OPENING[:4] + ((CLEAR, CLEAR), "on")
        service = service_of(opening, one, registers=["item", "note"])
        self.changes(service, ("leave", 0), [one])
        self.changes(service, ("leave", 1), [opening])
        self.changes(service, ("swap", 0), [one, opening])
        self.changes(service, ("say", 1, "ok"), [opening, rule_of(condition, ("ok",) + answer[1:], turn)])
        self.changes(service, ("show", 1, 0, ("fresh", 0)), [opening, rule_of(condition, ("yes", ("fresh", 0), ("fresh", 0)), turn)])
        self.changes(service, ("show", 1, 1, ("value", "key")), [opening, rule_of(condition, ("yes",) + (("value", "key"),) * 2, turn)])
        self.changes(service, ("hold", 1, 0, ("fresh", 0)), [opening, rule_of(condition, answer, (("fresh", 0),) * 2)])
        self.changes(service, ("hold", 1, 1, ("value", "item")), [opening, rule_of(condition, answer, (("value", "item"),) * 2)])
        self.changes(service, ("go", 1, "off"), [opening, rule_of(condition, answer, turn, "off")])
        atoms = [("empty", "item"), ("same", "key", "self"), ("matches", "key", "a*")]
        for number in range(3):
            new = [("not", atom) if index == number else atom for index, atom in enumerate(atoms)]
            other = ("or", ("and", new[0], ("always",)), ("not", new[1]), new[2])
            self.changes(service, ("negate", 1, number), [opening, rule_of(other, answer, turn)])

    def test_equal_neighbours(self):
        service = service_of(OPENING, rule_of(), rule_of())
        self.changes(service, ("swap", 1), service.rules)

    def test_no_changes(self):
        condition = ("and", ("empty", "item"), nested(4, ("empty", "item")))
        service = service_of(OPENING, rule_of(condition, ("yes", ("value", "key"), ("fresh", 0)), (("fresh", 1),)),
                             rule_of(answer=("no", ("text", "a")), turn=(KEEP,), name="get"))
        for change in (
                (), ("leave",), ("leave", 3), ("leave", -1), ("leave", 0, 0), ("leave", "on"), ("swap", 2), ("swap", -1), ("swap", 3), ("swap", 0, 1),
                ("say", 1, "yes"), ("say", 1, "never"), ("say", 3, "ok"), ("say", -1, "ok"), ("say", 1), ("say", 1, "no", "no"),
                ("show", 0, 0, ("fresh", 0)), ("show", 1, 0, ("value", "key")), ("show", 1, 0, ("text", "a")), ("show", 1, 2, ("fresh", 0)),
                ("show", 1, -1, ("value", "key")), ("show", 3, 0, ("fresh", 0)), ("show", 1, 0, ("fresh", 1)), ("show", 1, 0), ("show", 2, 0, ("fresh", 0)),
                ("hold", 1, 0, ("fresh", 1)), ("hold", 1, 0, KEEP), ("hold", 1, 1, KEEP), ("hold", 0, 0, KEEP), ("hold", 1, 0), ("hold", 1, -1, KEEP),
                ("go", 1, "on"), ("go", 1, "gone"), ("go", 3, "off"), ("go", -1, "off"), ("go", 1), ("go", 1, None),
                ("negate", 1, 1), ("negate", 1, 2), ("negate", 1, -1), ("negate", 0, 0), ("negate", 3, 0), ("negate", 1),
                ("other", 0), (0, "leave"), ("Leave", 0), (None,), ("leave", None)):
            self.assert_fails(NoSuchChange, change, changed, service, change)
        for change in changes_of(service):
            self.assertFalse(same_service(changed(service, change), service))

    def test_all_changes_of_rolled_services(self):
        for seed in range(20):
            service = Dice(seed).small()
            changes = changes_of(service)
            self.assertEqual(len(set(changes)), len(changes))
            for change in changes:
                other = changed(service, change)
                if change[0] != "swap":
                    differing = [1 for one, two in itertools.zip_longest(service.rules, other.rules) if one != two]
                    self.assertTrue(change[0] == "leave" or len(differing) == 1)


class PartIn(TestCase):

    def test_answers(self):
        talk = [("new",), (0, "close"), (0, "claim", "")]
        self.assertIs(part_in(receipts(), receipts(ALWAYS), talk), True)
        self.assertIs(part_in(receipts(ALWAYS), receipts(), talk), True)
        self.assertIs(part_in(receipts(), receipts(ALWAYS), talk[:2]), False)
        self.assertIs(part_in(receipts(), receipts(ALWAYS), talk + [(0, "claim", 1), ("new",)]), True)
        self.assertIs(part_in(receipts(), receipts(), talk * 2), False)
        self.assertIs(part_in(receipts(), receipts(ALWAYS), []), False)

    def test_ids_that_one_service_gives(self):
        """The second service does not give the id that the talk uses later: they part before."""
        silent = with_rules(receipts(), [(*rule[:3], rule[3][:1], *rule[4:]) for rule in receipts().rules])
        talk = [("new",), (0, "close"), (0, "claim", 1), ("new",)]
        self.assertIs(part_in(receipts(), silent, talk), True)
        self.assert_fails(NotGiven, (2, 2), part_in, silent, receipts(), talk)

    def test_errors(self):
        good = [("new",), (0, "close"), (0, "claim", "")]
        for second in (receipts(), receipts(ALWAYS)):
            for first in (receipts(), receipts(ALWAYS)):
                self.assert_fails(BadRequest, 1, part_in, first, second, [("new",), (0, "shut"), ("new", 1)])
                self.assert_fails(NotGiven, (0, 0), part_in, first, second, [(0, "close")])
                self.assert_fails(NotGiven, (3, 2), part_in, first, second, good + [(0, "claim", 2), (5, "close")])
                self.assert_fails(BadRequest, 4, part_in, first, second, good + [(0, "claim", 2), (0, "claim")])

    def test_arguments_stay(self):
        talk = [("new",), (0, "close"), (0, "claim", "")]
        part_in(receipts(), receipts(ALWAYS), talk)
        self.assertEqual(talk, [("new",), (0, "close"), (0, "claim", "")])


def suite_by_hand(service):
    """The suite by the words of point 11.5."""
    changes = changes_of(service)
    others = [changed(service, change) for change in changes]
    talks = []
    for other in others:
        if not any(run_by_hand(service, talk) != run_by_hand(other, talk) for talk in talks):
            found = difference(service, other)
            if found is not None:
                talks.append(found[0])
    shows = [[run_by_hand(service, talk) != run_by_hand(other, talk) for other in others] for talk in talks]
    left = list(range(len(talks)))
    for index in range(len(talks)):
        rest = [other for other in left if other != index]
        if all(any(shows[other][at] for other in rest) for at in range(len(others)) if shows[index][at]):
            left = rest
    shown = []
    for at in range(len(others)):
        found = [left.index(index) for index in left if shows[index][at]]
        shown.append(found[0] if found else None)
    return shown, [talks[index] for index in left]


class SuiteOf(TestCase):

    def test_receipts(self):
        """One talk shows all changes, and the talks before it are superfluous."""
        talk = [("new",), (0, "close"), (0, "claim", 1), (0, "close")]
        self.assert_same(suite_of(receipts()), ([0, 0, 0, None, None] + [0] * 10, [talk]))
        self.assertEqual(difference(receipts(), changed(receipts(), ("leave", 0)))[0], talk[:1])

    def test_no_changes(self):
        self.assert_same(suite_of(service_of()), ([], []))
        self.assert_same(suite_of(service_of(rule_of(), stations=["on"])), ([None], []))
        self.assert_same(suite_of(service_of(OPENING, stations=["on"])), ([0], [[("new",)]]))
        self.assert_same(suite_of(service_of(OPENING)), ([0, None], [[("new",)]]))

    def test_changes_that_no_talk_shows(self):
        service = service_of(OPENING, rule_of(), rule_of(), stations=["on"])
        self.assert_same(suite_of(service), ([0, None, None, None, None], [[("new",)]]))

    def test_several_talks(self):
        service = service_of(OPENING, rule_of(("matches", "key", "a"), ("yes",)), rule_of(("matches", "key", "b"), ("no",)))
        shown, talks = suite_of(service)
        self.assertEqual(dict(zip(changes_of(service), shown))["leave", 1], 0)
        self.assertEqual((shown, talks), suite_by_hand(service))
        self.assertGreater(len(talks), 1)
        self.assertIn([("new",), (0, "put", "a")], [talk[:2] for talk in talks])

    def test_by_hand(self):
        several = superfluous = 0
        for seed in range(130):
            service = Dice(seed).small()
            changes = changes_of(service)
            if len(changes) > 60:
                self.assert_fails(TooManyChanges, len(changes), suite_of, service)
                continue
            shown, talks = suite_of(service)
            self.assert_same((shown, talks), suite_by_hand(service))
            for change, index in zip(changes, shown):
                other = changed(service, change)
                if index is None:
                    self.assertIsNone(difference(service, other))
                else:
                    self.assertEqual([part_in(service, other, talk) for talk in talks[:index + 1]], [False] * index + [True])
            several += len(talks) > 2
            first = [difference(service, changed(service, change)) for change in changes]
            superfluous += any(found is not None and found[0] not in talks for found in first[:1])
        self.assertGreater(min(several, superfluous), 5)

    def test_60_and_61_changes(self):
        def with_changes(rules, station_count):
            return Service(["a", "b", "c", "d", "e", "f"][:station_count], [], [("new",), ("get",)], rules)

        opening = (None, "new", ALWAYS, ("ok",), (), "a")
        get = ("a", "get", ALWAYS, ("ok",), (), "a")
        # A rule is left out, exchanged with the next one, and leads to each other station.
        service = with_changes([opening] + [get] * 15, 3)
        self.assertEqual(len(changes_of(service)), 16 + 15 + 32)
        self.assert_fails(TooManyChanges, 63, suite_of, service)
        service = with_changes([opening] + [get] * 19, 2)
        self.assertEqual(len(changes_of(service)), 20 + 19 + 20)
        self.assertEqual(len(suite_of(service)[0]), 59)
        atom = ("matches", "key", "a")
        kinds = [("new",), ("put", "key")]
        for atoms, expected in ((1, 60), (2, 61)):
            rules = [opening] + [("a", "put", ("and",) + (atom,) * atoms, ("ok",), (), "a")] + [("a", "put", ALWAYS, ("ok",), (), "a")] * 18
            service = Service(["a", "b"], [], kinds, rules)
            self.assertEqual(len(changes_of(service)), expected)
            if expected == 60:
                self.assertEqual(len(suite_of(service)[0]), 60)
            else:
                self.assert_fails(TooManyChanges, 61, suite_of, service)
        # This comes before the errors of the questions, whatever they are.
        rules = [opening] + [("a", "put", ("matches", "key", letter), ("ok",), (), "a") for letter in "abcdefghijklmnopqrs"]
        self.assert_fails(TooManyChanges, 20 + 19 + 20 + 19, suite_of, Service(["a", "b"], [], kinds, rules))

    def test_errors_of_the_questions(self):
        rules = [OPENING] + [rule_of(("matches", "key", letter)) for letter in "abcdefghijklm"]
        self.assert_fails(TooManyPatterns, None, suite_of, service_of(*rules, stations=["on"]))
        rules = [OPENING] + [rule_of(("matches", "key", pattern)) for pattern in STATES_401]
        self.assert_fails(TooManyStates, None, suite_of, service_of(*rules, stations=["on"]))
        with self.assertRaises(UnknownName):
            service_of(rule_of(("matches", "other", "a")))

    def test_an_error_though_the_change_is_shown(self):
        """The error of a question is raised also if a talk that was taken shows the change already."""
        told = ("or",) + tuple(("matches", "key", letter) for letter in "abcdefgh")
        kinds = [("new",), ("one", "key"), ("two", "key"), ("three", "key"), ("get",)]
        registers = ["left", "mid", "right"]
        rules = [(None, "new", ALWAYS, ("ok",), (CLEAR,) * 3, "on")]
        for index, name in enumerate(["one", "two", "three"]):
            rules.append(("on", name, told, ("ok",), tuple(("value", "key") if at == index else KEEP for at in range(3)), "on"))
        # If the rule for "one" is left out, only "get" shows it.
        rules.append(("on", "one", ALWAYS, ("ok",), (KEEP,) * 3, "on"))
        rules.append(("on", "get", ALWAYS, ("ok",) + tuple(("value", name) for name in registers), (KEEP,) * 3, "on"))
        service = Service(["on"], registers, kinds, rules)
        changes = changes_of(service)
        self.assertLessEqual(len(changes), 60)
        change = ("hold", 1, 1, ("value", "key"))
        taken = difference(service, changed(service, ("leave", 1)))[0]
        self.assertIs(part_in(service, changed(service, change), taken), True)
        for earlier in changes[:changes.index(change)]:
            difference(service, changed(service, earlier))
        self.assert_fails(TooManyKinds, None, difference, service, changed(service, change))
        self.assert_fails(TooManyKinds, None, suite_of, service)

    def test_arguments_and_results(self):
        found = suite_of(receipts())
        found[0].clear()
        found[1][0].clear()
        self.assertEqual(len(suite_of(receipts())[0]), 15)
        self.assertEqual(len(suite_of(receipts())[1][0]), 4)
        self.assertEqual([len(talk) for talk in suite_of(locks())[1]], [len(talk) for talk in suite_by_hand(locks())[1]])


if __name__ == "__main__":
    unittest.main()
