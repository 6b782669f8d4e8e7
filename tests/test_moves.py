import copy
import itertools
import unittest

from helper import ALWAYS, CLEAR, KEEP, NEVER, STATES_400, STATES_401, Dice, TestCase, fits, receipts, texts_up_to
from talkalike.errors import TooManyStates
from talkalike.moves import move, openings, requests_to
from talkalike.pairs import kind_of, known_after
from talkalike.services import Service, patterns_of
from talkalike.steps import opened, step
from talkalike.talks import compare_requests

PATTERNS = ["a*", "?", ""]
SHORT = list(texts_up_to(2))


def talker(*values, opening=()):
    """A service without rules whose kinds have these values: one kind for each number of values."""
    kinds = [("new",) + tuple("abc"[:len(opening) and opening[0]])]
    for name, count in zip(("put", "get", "show", "take"), values):
        kinds.append((name,) + tuple("abc"[:count]))
    return Service(["open"], ["owner", "note"], kinds, [])


def with_values(*counts):
    return talker(*counts), talker(*counts)


def behind(held, other):
    """A pair with these registers."""
    return (("open", list(held)), ("open", list(other)))


def matter_by_hand(patterns, always, held, ahead):
    """The values that matter at a place of a request (point 6.6), in any order."""
    found = list(always) + list(held) + list(ahead)
    classes = []
    for text in SHORT:
        wanted = [fits(pattern, text) for pattern in patterns]
        if text not in held and text not in ahead and wanted not in classes:
            classes.append(wanted)
            found.append(text)
    number = -1
    while number in held or number in ahead:
        number -= 1
    return found + [number]


def tuples_by_hand(patterns, always, held, count):
    rows = [()]
    for _ in range(count):
        rows = [ahead + (value,) for ahead in rows for value in matter_by_hand(patterns, always, held, ahead)]
    return rows


class Case(TestCase):

    def requests(self, counts, patterns, pair):
        """What requests_to returns, with the arguments unchanged."""
        first, second = with_values(*counts)
        before = copy.deepcopy((pair, patterns))
        found = requests_to(first, second, patterns, pair)
        self.assertEqual((pair, patterns), before)
        self.assertIs(type(found), list)
        self.in_order(first.requests, found)
        return found

    def in_order(self, kinds, requests):
        """In the order of requests, without duplicates."""
        for one, other in zip(requests, requests[1:]):
            self.assertEqual(compare_requests(kinds, one, other), -1)

    def openings(self, count, patterns):
        first, second = talker(0, opening=[count]), talker(0, opening=[count])
        found = openings(first, second, patterns)
        self.in_order(first.requests, found)
        return found


class Openings(Case):

    def test_no_values(self):
        self.assert_same(self.openings(0, []), [("new",)])
        self.assert_same(self.openings(0, PATTERNS), [("new",)])

    def test_one_value(self):
        self.assert_same(self.openings(1, []), [("new", ""), ("new", -1)])
        self.assert_same(self.openings(1, ["a"]), [("new", ""), ("new", "a"), ("new", -1)])
        self.assert_same(self.openings(1, PATTERNS), [("new", ""), ("new", "a"), ("new", "b"), ("new", "aa"), ("new", "ba"), ("new", -1)])

    def test_two_values(self):
        self.assert_same(self.openings(2, []), [("new", "", ""), ("new", "", "a"), ("new", "", -1),
                                                ("new", -1, ""), ("new", -1, -1), ("new", -1, -2)])
        self.assert_same(self.openings(2, ["a"]), [
            ("new", "", ""), ("new", "", "a"), ("new", "", "b"), ("new", "", -1), ("new", "a", ""), ("new", "a", "a"), ("new", "a", -1),
            ("new", -1, ""), ("new", -1, "a"), ("new", -1, -1), ("new", -1, -2)])

    def test_three_values(self):
        self.assert_same(self.openings(3, []), [
            ("new", "", "", ""), ("new", "", "", "a"), ("new", "", "", -1),
            ("new", "", "a", ""), ("new", "", "a", "a"), ("new", "", "a", "b"), ("new", "", "a", -1),
            ("new", "", -1, ""), ("new", "", -1, "a"), ("new", "", -1, -1), ("new", "", -1, -2),
            ("new", -1, "", ""), ("new", -1, "", "a"), ("new", -1, "", -1), ("new", -1, "", -2),
            ("new", -1, -1, ""), ("new", -1, -1, -1), ("new", -1, -1, -2),
            ("new", -1, -2, ""), ("new", -1, -2, -1), ("new", -1, -2, -2), ("new", -1, -2, -3)])

    def test_no_zero(self):
        for count in range(4):
            for request in self.openings(count, PATTERNS):
                self.assertNotIn(0, request)

    def test_against_the_definition(self):
        for count, patterns in itertools.product(range(4), ([], PATTERNS, ["?*"], ["b", "*b", "zz"])):
            expected = {("new",) + values for values in tuples_by_hand(patterns, [], [], count)}
            found = self.openings(count, patterns)
            self.assertEqual((len(found), set(found)), (len(expected), expected))

    def test_classes_without_further_texts(self):
        # Only "a" and "" have these classes, so they stand at most once among the new values.
        for request in self.openings(2, ["a", ""]):
            self.assertIn(request, [("new", one, other) for one in ("", "a", "b", -1) for other in ("", "a", "b", "c", -1, -2)])
        self.assertIn(("new", "b", "c"), self.openings(2, ["a", ""]))
        self.assertNotIn(("new", "a", "c"), self.openings(2, ["a", ""]))

    def test_the_services_are_not_asked(self):
        # What matters does not depend on stations, registers and rules.
        self.assertEqual(openings(receipts(), receipts(ALWAYS), ["a"]), [("new",)])

    def test_too_many_states(self):
        for count in (0, 1):
            service = talker(0, opening=[count])
            self.assert_fails(TooManyStates, None, openings, service, service, STATES_401)
        self.assertEqual(len(openings(talker(0), talker(0), STATES_400)), 1)

    def test_new_list(self):
        service, patterns = talker(0), ["a"]
        openings(service, service, patterns).append("changed")
        self.assertEqual((openings(service, service, patterns), patterns), ([("new",)], ["a"]))


class RequestsTo(Case):

    def test_no_values(self):
        pair = behind(["a", 5], [-1, None])
        self.assert_same(self.requests([0], [], pair), [(0, "put")])
        self.assert_same(self.requests([0, 0, 0], PATTERNS, pair), [(0, "put"), (0, "get"), (0, "show")])
        self.assert_same(self.requests([], PATTERNS, pair), [])

    def test_one_value(self):
        self.assert_same(self.requests([1], [], behind([None, None], [None, None])), [(0, "put", ""), (0, "put", -1), (0, "put", 0)])
        self.assert_same(self.requests([1], [], behind(["", 5], [-1, None])),
                         [(0, "put", ""), (0, "put", "a"), (0, "put", -1), (0, "put", -2), (0, "put", 0), (0, "put", 5)])
        self.assert_same(self.requests([1], ["zz"], behind(["zz", "b"], [0, -2])),
                         [(0, "put", ""), (0, "put", "b"), (0, "put", "zz"), (0, "put", -1), (0, "put", -2), (0, "put", 0)])
        self.assert_same(self.requests([1], [], behind(["b", ("own", 0)], [("own", 4), 3])),
                         [(0, "put", ""), (0, "put", "b"), (0, "put", -1), (0, "put", 0), (0, "put", 3)])

    def test_two_values(self):
        self.assert_same(self.requests([2], [], behind([None, None], [4, None])), [
            (0, "put", "", ""), (0, "put", "", "a"), (0, "put", "", -1), (0, "put", "", 0), (0, "put", "", 4),
            (0, "put", -1, ""), (0, "put", -1, -1), (0, "put", -1, -2), (0, "put", -1, 0), (0, "put", -1, 4),
            (0, "put", 0, ""), (0, "put", 0, -1), (0, "put", 0, 0), (0, "put", 0, 4),
            (0, "put", 4, ""), (0, "put", 4, -1), (0, "put", 4, 0), (0, "put", 4, 4)])

    def test_kinds_in_order(self):
        found = self.requests([1, 0, 2, 1], [], behind([None, None], [None, None]))
        self.assertEqual([name for name, _ in itertools.groupby(request[1] for request in found)], ["put", "get", "show", "take"])
        self.assertEqual({request[0] for request in found}, {0})

    def test_made_up_ids(self):
        """The greatest id below 0 that is neither held nor stands ahead."""
        for held, number in (([-1, None], -2), ([-2, None], -1), ([-1, -2], -3), ([-3, -1], -2), ([5, 0], -1)):
            for pair in (behind(held, [None, None]), behind([None, None], held), behind(held[:1] + [None], [None] + held[1:])):
                found = [request[2] for request in self.requests([1], [], pair)]
                self.assertEqual([one for one in found if one != "" and one not in held and one != 0], [number])
        pairs = [request[2:] for request in self.requests([2], [], behind([-2, None], [None, None]))]
        self.assertIn((-1, -3), pairs)
        self.assertNotIn((-1, -4), pairs)
        self.assertIn((-2, -1), pairs)

    def test_classes_without_further_texts(self):
        found = self.requests([1], ["a", ""], behind(["a", "b"], [None, None]))
        self.assertEqual([request[2] for request in found], ["", "a", "b", "c", -1, 0])
        found = self.requests([2], ["?"], behind(list("ab"), list("cd")))
        self.assertEqual(len([request for request in found if request[2] == "e"]), 1 + 5 + 1 + 1 + 1)

    def test_six_held_texts(self):
        first = Service(["open"], ["a", "b", "c"], [("new",), ("put", "d", "e", "f")], [])
        pair = behind(["", "a", "b"], ["c", "d", "e"])
        found = requests_to(first, first, [], pair)
        self.in_order(first.requests, found)
        self.assertIn((0, "put", "f", "g", "h"), found)
        expected = {(0, "put") + values for values in tuples_by_hand([], [0], ["", "a", "b", "c", "d", "e"], 3)}
        self.assertEqual((len(found), set(found)), (len(expected), expected))

    def test_against_the_definition(self):
        for counts, patterns, held in itertools.product(([0, 1], [2], [3, 1]), ([], PATTERNS, ["b", "*b", "zz"]), (
                ([None, None], [None, None]), (["a", "b"], ["a", -1]), ([0, 7], [7, "zz"]), (["", ("own", 3)], [-2, -1]),
                ([("own", 0), ("own", 0)], [-9, 4]), (["b", "aa"], ["ba", "ab"]))):
            values = [value for value in held[0] + held[1] if type(value) in (str, int)]
            expected = []
            for name, count in zip(("put", "get"), counts):
                expected += [(0, name) + one for one in tuples_by_hand(patterns, [0], values, count)]
            found = self.requests(counts, patterns, behind(*held))
            self.assertEqual((len(found), set(found)), (len(set(expected)), set(expected)))

    def test_too_many_states(self):
        for counts, pair in (([], behind([None, None], [None, None])), ([0], behind(["a", None], [1, None])), ([1], behind(["a", "b"], [0, 0]))):
            first, second = with_values(*counts)
            self.assert_fails(TooManyStates, None, requests_to, first, second, STATES_401, pair)
        self.assertGreater(len(self.requests([1], STATES_400, behind([None, None], [None, None]))), 10)

    def test_new_list(self):
        first, second = with_values(0)
        pair = behind([None, None], [None, None])
        requests_to(first, second, [], pair).append("changed")
        self.assertEqual(requests_to(first, second, [], pair), [(0, "put")])


KINDS = [("new", "name"), ("put", "key"), ("get",)]


def service_of(rules, registers=("owner", "note")):
    return Service(["open", "closed"], list(registers), KINDS, list(rules))


def opening(condition=ALWAYS, answer=("ok",), turn=(KEEP, KEEP), station="open"):
    return None, "new", condition, answer, turn, station


def getting(condition=ALWAYS, answer=("got",), turn=(KEEP, KEEP), station="closed"):
    return "open", "get", condition, answer, turn, station


class Move(TestCase):

    def outcome(self, first, second, expected, pair=None, request=("new", "a"), given=0):
        before = copy.deepcopy(pair)
        found = move(first, second, pair, request, given)
        self.assert_same(found, expected)
        self.assertEqual(pair, before)
        return found

    def get(self, first, second, expected, held, other, given=5):
        self.outcome(service_of([first]), service_of([second]), expected, behind(held, other), (0, "get"), given)

    def test_refused(self):
        none, some = service_of([]), service_of([opening(NEVER), getting(NEVER)])
        self.outcome(none, some, ("refused",))
        self.outcome(none, some, ("refused",), given=4)
        self.outcome(none, some, ("refused",), behind([None, 1], ["a", 0]), (0, "get"), 2)
        self.outcome(none, some, ("refused",), behind([None, 1], ["a", 0]), (0, "put", -1), 2)

    def test_one_refuses(self):
        none, some = service_of([]), service_of([opening(), getting(answer=("got", ("fresh", 0)))])
        self.outcome(none, some, ("part", None, ("ok", 0)))
        self.outcome(some, none, ("part", ("ok", 7), None), given=7)
        pair = behind([None, 1], ["a", 0])
        self.outcome(none, some, ("part", None, ("got", 2)), pair, (0, "get"), 2)
        self.outcome(some, none, ("part", ("got", 2), None), pair, (0, "get"), 2)

    def test_answers_that_differ(self):
        self.outcome(service_of([opening()]), service_of([opening(answer=("no",))]), ("part", ("ok", 0), ("no", 0)))
        self.get(getting(answer=("got", ("value", "owner"))), getting(answer=("got", ("value", "note"))),
                 ("part", ("got", 1), ("got", "a")), [1, 2], [1, "a"])
        self.get(getting(answer=("got", ("fresh", 0))), getting(), ("part", ("got", 5), ("got",)), [None, None], [None, None])
        self.get(getting(answer=("got", ("value", "owner"))), getting(), ("part", ("got", None), ("got",)), [None, None], [None, None])

    def test_answers_that_are_equal(self):
        self.get(getting(), getting(station="open"), ("go", (("closed", [1, "b"]), ("open", ["c", None])), 5, ("got",)), [1, "b"], ["c", None])
        self.get(getting(turn=(CLEAR, ("text", "z"))), getting(answer=("got",), turn=(("value", "note"), ("value", "self"))),
                 ("go", (("closed", [None, "z"]), ("closed", ["d", 0])), 5, ("got",)), [1, "b"], ["c", "d"])

    def test_objects_have_the_id_0(self):
        rule = getting(answer=("got", ("value", "self")), turn=(("value", "self"), KEEP))
        self.get(rule, rule, ("go", (("closed", [0, "b"]), ("closed", [0, 2])), 5, ("got", 0)), [1, "b"], [None, 2])
        putting = ("open", "put", ("same", "key", "self"), ("put",), (KEEP, ("value", "key")), "open")
        service = service_of([putting])
        self.outcome(service, service, ("go", (("open", [1, 0]), ("open", [2, 0])), 3, ("put",)), behind([1, None], [2, None]), (0, "put", 0), 3)
        self.outcome(service, service, ("refused",), behind([1, None], [2, None]), (0, "put", 1), 3)

    def test_opening(self):
        rule = opening(answer=("ok", ("fresh", 0), ("value", "name")), turn=(("value", "self"), ("fresh", 0)), station="closed")
        other = opening(answer=("ok", ("fresh", 2), ("value", "name")), turn=(CLEAR, ("fresh", 1)))
        first, second = service_of([rule]), service_of([other])
        self.outcome(first, first, ("go", (("closed", [0, 1]), ("closed", [0, 1])), 2, ("ok", 0, 1, "a")))
        self.outcome(first, first, ("go", (("closed", [6, 7]), ("closed", [6, 7])), 8, ("ok", 6, 7, -3)), None, ("new", -3), 6)
        found = move(first, second, None, ("new", "a"), 3)
        self.assertEqual((found[0], found[1][0], found[2:]), ("go", ("closed", [3, 4]), (5, ("ok", 3, 4, "a"))))
        self.assertEqual((found[1][1][0], found[1][1][1][0], found[1][1][1][1][0]), ("open", None, "own"))

    def test_opening_with_other_registers(self):
        first, second = service_of([opening()]), service_of([opening(turn=())], [])
        self.outcome(first, second, ("go", (("open", [None, None]), ("open", [])), 1, ("ok", 0)))
        self.outcome(second, first, ("go", (("open", []), ("open", [None, None])), 1, ("ok", 0)))

    def test_own_ids_that_become_known(self):
        rule = getting(answer=("got", ("value", "owner")))
        self.get(rule, rule, ("go", (("closed", [5, 5]), ("closed", [5, None])), 6, ("got", 5)), [("own", 2), ("own", 2)], [("own", 0), None])
        # The own id of the one is shown, that of the other is known already.
        self.get(rule, rule, ("part", ("got", 5), ("got", 3)), [("own", 2), None], [3, None])
        other = getting(answer=("got", ("fresh", 1)), turn=(KEEP, ("fresh", 1)))
        self.get(rule, other, ("go", (("closed", [5, ("own", 1)]), ("closed", [3, 5])), 6, ("got", 5)), [("own", 2), ("own", 1)], [3, None])

    def test_against_steps(self):
        """The outcome, put together from what both services do by themselves."""
        counts = {"refused": 0, "part": 0, "go": 0}
        for seed in range(150):
            dice = Dice(seed)
            first = dice.service()
            second = dice.other(first)
            pairs = [(None, openings(first, second, []), 0), (None, openings(first, second, [])[:3], 3)]
            for pair, requests, given in pairs:
                for request in requests:
                    found = move(first, second, pair, request, given)
                    counts[found[0]] += 1
                    if pair is None:
                        both = [opened(service, list(request[1:]), given) for service in (first, second)]
                    else:
                        both = [step(service, item, 0, request[1], list(request[2:]), given) for service, item in zip((first, second), pair)]
                    answers = [one and one[1] for one in both]
                    if both == [None, None]:
                        self.assertEqual(found, ("refused",))
                    elif answers[0] != answers[1]:
                        self.assertEqual(found, ("part", *answers))
                    else:
                        self.assertEqual(found, ("go", (both[0][0], both[1][0]), both[0][2], answers[0]))
                        self.assertEqual(both[0][2], both[1][2])
                        if len(pairs) < 8:
                            behind_it = found[1]
                            pairs.append((behind_it, requests_to(first, second, ["a"], behind_it)[:40], found[2]))
        self.assertGreater(min(counts.values()), 100)


class Enough(unittest.TestCase):

    def test_every_other_request_is_like_one_that_matters(self):
        """Point 6.7, up to the kinds of the pairs behind the requests."""
        values = SHORT[:60:7] + ["b", "zz", -1, -2, -8, 0, 1, 2, 3, 4]
        asked = 0
        for seed in range(60):
            dice = Dice(seed)
            first = dice.service()
            second = dice.other(first)
            patterns = patterns_of([first, second])
            for opens in openings(first, second, patterns)[:4]:
                outcome = move(first, second, None, opens, 0)
                if outcome[0] == "go":
                    pair = outcome[1]
                    given = max(known_after(pair), 5)
                    for kind in first.requests[1:]:
                        some = [request for request in requests_to(first, second, patterns, pair) if request[1] == kind[0]]
                        kinds = {self.what(patterns, move(first, second, pair, request, given)) for request in some}
                        for row in list(itertools.product(values, repeat=len(kind) - 1))[:400]:
                            asked += 1
                            found = move(first, second, pair, (0, kind[0]) + row, given)
                            self.assertIn(self.what(patterns, found), kinds)
        self.assertGreater(asked, 3000)

    @staticmethod
    def what(patterns, outcome):
        return ("go", kind_of(patterns, outcome[1])) if outcome[0] == "go" else outcome[:1]


if __name__ == "__main__":
    unittest.main()
