import copy
import unittest

from helper import ALWAYS, CLEAR, KEEP, NEVER, Dice, HandHouse, TestCase, Unshown, locks, receipts
from talkalike.services import Service
from talkalike.steps import new_object, opened, rule_for, step

KINDS = [("new", "name", "key"), ("put", "key", "text"), ("get",)]
OPENING = (None, "new", ALWAYS, ("ok",), (KEEP, KEEP), "open")


def service_of(rules, stations=("open", "closed"), registers=("owner", "note"), kinds=KINDS):
    return Service(list(stations), list(registers), list(kinds), list(rules))


def getting(condition=ALWAYS, answer=(), turn=(KEEP, KEEP), station="open", behind="closed"):
    """A rule for "get" with these parts; answer is the tuple of its sources."""
    return station, "get", condition, ("told",) + tuple(answer), tuple(turn), behind


def own_numbers(values):
    return [value[1] for value in values if isinstance(value, tuple)]


class Case(TestCase):

    def get(self, rules, held, number=3, given=9, station="open"):
        """What step returns for "get", with the arguments unchanged and with a new list."""
        service, item = service_of(rules), (station, list(held))
        before = copy.deepcopy(item)
        found = step(service, item, number, "get", [], given)
        self.assertEqual(item, before)
        if found is not None:
            self.assertIsNot(found[0][1], item[1])
            self.assertEqual([type(part) for part in found], [tuple, tuple, int])
            self.assertEqual([type(part) for part in found[0]], [str, list])
        return found


class NewObject(TestCase):

    def test_objects(self):
        self.assert_same(new_object(receipts()), ("open", [None]))
        self.assert_same(new_object(Service(["far", "open"], [], [("new",)], [])), ("far", []))
        self.assert_same(new_object(service_of([])), ("open", [None, None]))

    def test_new_list(self):
        service = receipts()
        new_object(service)[1][0] = "changed"
        self.assertEqual(new_object(service), ("open", [None]))


class RuleFor(Case):

    def rule(self, rules, item=("open", [None, None]), number=0, name="get", values=()):
        return rule_for(service_of(rules), (item[0], list(item[1])), number, name, list(values))

    def test_first_rule_that_fits(self):
        self.assertEqual(self.rule([getting(), getting()]), 0)
        self.assertEqual(self.rule([getting(NEVER), getting(), getting()]), 1)
        self.assertEqual(self.rule([OPENING, getting(NEVER), getting(NEVER), getting()]), 3)
        self.assertIsNone(self.rule([OPENING, getting(NEVER)]))
        self.assertIsNone(self.rule([]))

    def test_station(self):
        rules = [getting(station="closed"), getting(station=None), getting(station="open")]
        self.assertEqual(self.rule(rules, ("open", [None, None])), 1)
        self.assertEqual(self.rule(rules, ("closed", [None, None])), 0)
        self.assertEqual(self.rule(rules[1:], ("closed", [None, None])), 0)
        self.assertEqual(self.rule(rules[::-1], ("open", [None, None])), 0)
        self.assertIsNone(self.rule(rules[:1], ("open", [None, None])))

    def test_request(self):
        putting = ("open", "put", ALWAYS, ("ok",), (KEEP, KEEP), "open")
        self.assertEqual(self.rule([putting, getting()]), 1)
        self.assertEqual(self.rule([getting(), putting], name="put", values=["", ""]), 1)
        self.assertIsNone(self.rule([getting()], name="put", values=["", ""]))
        # A rule for any station is one for its own kind of requests only.
        self.assertIsNone(self.rule([OPENING]))

    def test_opening(self):
        rules = [OPENING[:2] + (("same", "self", "key"),) + OPENING[3:], getting(),
                 OPENING[:2] + (("matches", "name", "a*"),) + OPENING[3:]]
        service = service_of(rules)
        for number, values, index in ((4, ["b", 4], 0), (4, ["ab", 4], 0), (4, ["ab", 5], 2), (4, ["b", 5], None)):
            self.assertEqual(rule_for(service, new_object(service), number, "new", values), index)

    def test_names(self):
        """A register stands for what it holds, a value for the value, and self for the id of the object."""
        item = ("open", ["a", 5])
        for condition, fits in (
            (("matches", "owner", "a"), True), (("matches", "owner", "b"), False), (("matches", "note", "*"), False),
            (("same", "note", "self"), True), (("same", "owner", "self"), False), (("same", "owner", "key"), False),
            (("same", "key", "self"), True), (("matches", "text", "b?"), True), (("matches", "text", "a"), False),
            (("empty", "owner"), False), (("same", "owner", "note"), False),
        ):
            rule = ("open", "put", condition, ("ok",), (KEEP, KEEP), "open")
            self.assertEqual(self.rule([rule], item, 5, "put", [5, "bc"]), 0 if fits else None, condition)

    def test_names_that_have_no_value(self):
        for condition, fits in ((("empty", "owner"), True), (("same", "owner", "note"), False), (("same", "owner", "owner"), False),
                                (("matches", "owner", "*"), False), (("same", "owner", "self"), False)):
            self.assertEqual(self.rule([getting(condition)]), 0 if fits else None)

    def test_equal_ids(self):
        same = ("same", "owner", "note")
        for held, fits in (([5, 5], True), ([5, 4], False), ([-1, -1], True), ([-1, 1], False), (["a", "a"], True),
                           ([("own", 5), ("own", 5)], True), ([("own", 5), ("own", 4)], False), ([("own", 5), 5], False),
                           ([0, ("own", 0)], False), (["own", ("own", 0)], False)):
            self.assertEqual(self.rule([getting(same)], ("open", held)), 0 if fits else None, held)

    def test_arguments_stay(self):
        service, item, values = service_of([getting()]), ("open", ["a", ("own", 3)]), ["a", 4]
        rule_for(service, item, 0, "put", values)
        self.assertEqual((item, values), (("open", ["a", ("own", 3)]), ["a", 4]))


class Step(Case):

    def test_refused(self):
        self.assertIsNone(self.get([], ["a", None]))
        self.assertIsNone(self.get([getting(NEVER)], ["a", None]))
        self.assertIsNone(self.get([getting(station="closed")], ["a", None]))

    def test_first_rule(self):
        rules = [getting(("empty", "owner"), [("text", "one")]), getting(ALWAYS, [("text", "two")]), getting(ALWAYS, [("text", "no")])]
        self.assert_same(self.get(rules, [None, "a"]), (("closed", [None, "a"]), ("told", "one"), 9))
        self.assert_same(self.get(rules, ["b", "a"]), (("closed", ["b", "a"]), ("told", "two"), 9))

    def test_next_station(self):
        for station in ("open", "closed"):
            self.assertEqual(self.get([getting(station=None, behind=station)], [None, 1])[0], (station, [None, 1]))
            self.assertEqual(self.get([getting(station=None, behind=station)], [None, 1], station="closed")[0][0], station)

    def test_values(self):
        rule = ("open", "put", ALWAYS, ("told", ("value", "text"), ("value", "key"), ("value", "self"), ("value", "owner")),
                (("value", "key"), ("value", "self")), "open")
        found = step(service_of([rule]), ("open", ["a", None]), 7, "put", [-2, "abc"], 9)
        self.assert_same(found, (("open", [-2, 7]), ("told", "abc", -2, 7, "a"), 9))

    def test_texts(self):
        rule = getting(ALWAYS, [("text", ""), ("text", "ab"), ("text", "ab")], [("text", "c"), ("text", "")])
        self.assert_same(self.get([rule], [1, None]), (("closed", ["c", ""]), ("told", "", "ab", "ab"), 9))

    def test_names_that_have_no_value(self):
        rule = getting(ALWAYS, [("value", "owner"), ("value", "note")], [("value", "owner"), ("value", "owner")])
        self.assert_same(self.get([rule], [None, "a"]), (("closed", [None, None]), ("told", None, "a"), 9))

    def test_what_registers_hold_before_the_step(self):
        rule = getting(ALWAYS, [("value", "owner"), ("value", "note")], [("value", "note"), ("value", "owner")])
        self.assert_same(self.get([rule], ["a", 4]), (("closed", [4, "a"]), ("told", "a", 4), 9))
        # Neither line shows what the answer tells afterwards.
        rule = getting(ALWAYS, [("value", "owner")], [CLEAR, ("value", "owner")])
        self.assert_same(self.get([rule], ["a", 4]), (("closed", [None, "a"]), ("told", "a"), 9))

    def test_lines(self):
        for line, held in ((KEEP, "a"), (CLEAR, None), (("text", "b"), "b"), (("value", "note"), 4), (("value", "self"), 3)):
            self.assert_same(self.get([getting(ALWAYS, [], [line, KEEP])], ["a", 4])[0], ("closed", [held, 4]))

    def test_word_alone(self):
        self.assert_same(self.get([getting()], [None, None]), (("closed", [None, None]), ("told",), 9))

    def test_no_registers(self):
        service = service_of([("open", "get", ALWAYS, ("told", ("fresh", 2)), (), "open")], registers=())
        self.assert_same(step(service, ("open", []), 0, "get", [], 1), (("open", []), ("told", 1), 2))


class FreshIds(Case):

    def test_kept_alone(self):
        (_, held), answer, count = self.get([getting(ALWAYS, [], [("fresh", 0), ("fresh", 0)])], [None, None])
        self.assertEqual((answer, count), (("told",), 9))
        self.assertEqual([own[0] for own in held], ["own", "own"])
        self.assertEqual(held[0], held[1])

    def test_two_numbers(self):
        held = self.get([getting(ALWAYS, [], [("fresh", 2), ("fresh", 0)])], [None, None])[0][1]
        self.assertNotEqual(held[0], held[1])
        self.assertGreaterEqual(min(own_numbers(held)), 0)

    def test_greater_than_all_that_are_held(self):
        for before in ([("own", 0), None], [("own", 7), ("own", 2)], [("own", 2), ("own", 7)], [("own", 5), ("own", 5)]):
            for k in range(3):
                for lines in ([("fresh", k), KEEP], [("fresh", k), CLEAR], [("fresh", k), ("fresh", k)], [KEEP, ("fresh", k)]):
                    held = self.get([getting(ALWAYS, [], lines)], before)[0][1]
                    made = [own for own, line in zip(held, lines) if line == ("fresh", k)]
                    self.assertGreater(min(own_numbers(made)), max(own_numbers(before)))
                    self.assertIs(type(made[0][1]), int)

    def test_shown(self):
        rule = getting(ALWAYS, [("fresh", 1)])
        self.assert_same(self.get([rule], [None, None]), (("closed", [None, None]), ("told", 9), 10))
        rule = getting(ALWAYS, [("fresh", 1), ("fresh", 1), ("fresh", 0), ("fresh", 1), ])
        self.assert_same(self.get([rule], [None, None]), (("closed", [None, None]), ("told", 9, 9, 10, 9), 11))
        rule = getting(ALWAYS, [("fresh", 2), ("text", "a"), ("fresh", 0), ("fresh", 1)])
        self.assert_same(self.get([rule], [None, None], given=1), (("closed", [None, None]), ("told", 1, "a", 2, 3), 4))

    def test_shown_and_kept(self):
        rule = getting(ALWAYS, [("fresh", 1)], [("fresh", 1), ("fresh", 1)])
        self.assert_same(self.get([rule], [None, None]), (("closed", [9, 9]), ("told", 9), 10))
        rule = getting(ALWAYS, [("fresh", 1), ("fresh", 0)], [("fresh", 0), ("fresh", 1)])
        self.assert_same(self.get([rule], [None, None]), (("closed", [10, 9]), ("told", 9, 10), 11))
        (_, held), answer, count = self.get([getting(ALWAYS, [("fresh", 1)], [("fresh", 0), ("fresh", 1)])], [None, None])
        self.assertEqual((held[0][0], held[1], answer, count), ("own", 9, ("told", 9), 10))


class OwnIds(Case):

    def test_shown(self):
        rule = getting(ALWAYS, [("value", "owner")])
        self.assert_same(self.get([rule], [("own", 4), None]), (("closed", [9, None]), ("told", 9), 10))
        # The other own id stays unknown; the same one is known in every register.
        (_, held), answer, count = self.get([rule], [("own", 4), ("own", 3)])
        self.assertEqual((held[0], held[1][0], answer, count), (9, "own", ("told", 9), 10))
        self.assert_same(self.get([rule], [("own", 4), ("own", 4)]), (("closed", [9, 9]), ("told", 9), 10))

    def test_shown_twice(self):
        rule = getting(ALWAYS, [("value", "note"), ("value", "owner"), ("value", "note")])
        self.assert_same(self.get([rule], [("own", 4), ("own", 3)]), (("closed", [10, 9]), ("told", 9, 10, 9), 11))
        self.assert_same(self.get([rule], [("own", 4), ("own", 4)]), (("closed", [9, 9]), ("told", 9, 9, 9), 10))

    def test_shown_and_not_kept(self):
        rule = getting(ALWAYS, [("value", "owner")], [CLEAR, ("text", "a")])
        self.assert_same(self.get([rule], [("own", 4), None]), (("closed", [None, "a"]), ("told", 9), 10))

    def test_shown_and_moved(self):
        rule = getting(ALWAYS, [("value", "owner"), ("value", "note")], [("value", "note"), ("value", "owner")])
        self.assert_same(self.get([rule], [("own", 4), ("own", 3)]), (("closed", [10, 9]), ("told", 9, 10), 11))

    def test_moved_but_not_shown(self):
        rule = getting(ALWAYS, [], [("value", "note"), ("value", "note")])
        held = self.get([rule], [("own", 4), ("own", 3)])[0][1]
        self.assertEqual((held[0][0], held[0] == held[1]), ("own", True))

    def test_an_id_that_was_shown_is_a_known_one(self):
        rule = getting(ALWAYS, [("value", "owner"), ("fresh", 0), ("value", "owner")])
        self.assert_same(self.get([rule], [4, None]), (("closed", [4, None]), ("told", 4, 9, 4), 10))

    def test_an_own_id_with_the_number_of_a_known_one(self):
        rule = getting(ALWAYS, [("value", "owner"), ("value", "note")])
        self.assert_same(self.get([rule], [4, ("own", 4)]), (("closed", [4, 9]), ("told", 4, 9), 10))
        self.assert_same(self.get([rule], [("own", 9), 9], given=11), (("closed", [11, 9]), ("told", 11, 9), 12))


class Opened(Case):

    def opened(self, rules, values, given):
        return opened(service_of(rules), values, given)

    def test_id_behind_the_word(self):
        self.assert_same(self.opened([OPENING], ["a", -1], 0), (("open", [None, None]), ("ok", 0), 1))
        self.assert_same(self.opened([OPENING], ["a", -1], 5), (("open", [None, None]), ("ok", 5), 6))

    def test_ahead_of_the_own_ids(self):
        rule = (None, "new", ALWAYS, ("made", ("fresh", 1), ("value", "name"), ("value", "self"), ("fresh", 0)),
                (("fresh", 0), ("value", "self")), "closed")
        self.assert_same(self.opened([rule], ["a", -1], 0), (("closed", [2, 0]), ("made", 0, 1, "a", 0, 2), 3))
        self.assert_same(self.opened([rule], [3, -1], 4), (("closed", [6, 4]), ("made", 4, 5, 3, 4, 6), 7))

    def test_first_station_and_empty_registers(self):
        rules = [OPENING[:2] + (("not", ("and", ("empty", "owner"), ("empty", "note"))),) + OPENING[3:],
                 OPENING[:3] + (("made", ("value", "note")),) + OPENING[4:]]
        self.assert_same(self.opened(rules, ["a", "b"], 2), (("open", [None, None]), ("made", 2, None), 3))

    def test_refused(self):
        self.assertIsNone(self.opened([], ["a", "b"], 0))
        self.assertIsNone(self.opened([OPENING[:2] + (("same", "name", "key"),) + OPENING[3:]], ["a", "b"], 0))
        self.assertIsNone(self.opened([getting(station=None)], ["a", "b"], 0))

    def test_self(self):
        rule = OPENING[:2] + (("same", "self", "key"),) + OPENING[3:]
        self.assertIsNone(self.opened([rule], ["a", 3], 4))
        self.assertEqual(self.opened([rule], ["a", 4], 4)[1], ("ok", 4))

    def test_new_lists(self):
        service, values = locks(), ["ann"]
        one, other = opened(service, values, 0), opened(service, values, 0)
        one[0][1].append("changed")
        self.assertEqual(other, opened(service, values, 0))
        self.assertEqual(values, ["ann"])


class AgainstTheDefinition(unittest.TestCase):

    def test_rolled(self):
        """Each step of rolled talks, with own ids told from each other by what Python tells apart."""
        fitting = 0
        for seed in range(300):
            dice = Dice(seed)
            service = dice.service()
            house = HandHouse(service)
            for request in dice.talk(service, 6):
                number, item, given = self.asked(house, service, request)
                before, values = house.given, list(request[1 if request[0] == "new" else 2:])
                name = "new" if request[0] == "new" else request[1]
                if item is not None:
                    index = house.rule((item[0], self.unshown(item[1])), number, name, values)
                    self.assertEqual(rule_for(service, item, number, name, values), index)
                    found = opened(service, values, given) if name == "new" else step(service, item, number, name, values, given)
                    answer = house.ask(request)
                    self.assertEqual(found is None, answer is None)
                    if found is not None:
                        fitting += 1
                        self.assertEqual(found[1:], (answer, house.given))
                        self.assertEqual(anew(found[0]), house.object_of(number))
                        self.assertLessEqual(before, found[2])
        self.assertGreater(fitting, 500)

    @staticmethod
    def asked(house, service, request):
        if request[0] == "new":
            return house.given, new_object(service), house.given
        return request[0], house.object_of(request[0]), house.given

    @staticmethod
    def unshown(held):
        own = {value: Unshown() for value in held if isinstance(value, tuple)}
        return [own.get(value, value) for value in held]


def anew(item):
    """The object with its own ids numbered from 0."""
    order = []
    for value in item[1]:
        if isinstance(value, tuple) and value not in order:
            order.append(value)
    return item[0], [("own", order.index(value)) if value in order else value for value in item[1]]


if __name__ == "__main__":
    unittest.main()
