import copy
import unittest

from helper import (ALWAYS, CLEAR, KEEP, NEVER, STATES_401, Dice, HandHouse, TestCase, first_by_hand, locks, receipts, texts_of_talk,
                    thousand, with_rule)
from talkalike.difference import difference
from talkalike.errors import BadCarry, OtherRequests, TooManyClasses, TooManyKinds, TooManyPatterns, TooManyStates
from talkalike.house import House
from talkalike.live import carried, check_carry, live
from talkalike.services import Service, with_rules

KINDS = [("new",), ("put", "key"), ("get",)]
OPENING = (None, "new", ALWAYS, ("ok",), (CLEAR,), "on")
PUTTING = ("on", "put", ALWAYS, ("ok",), (("value", "key"),), "on")
GETTING = ("on", "get", ALWAYS, ("got", ("value", "item")), (KEEP,), "on")


def service_of(*rules, registers=("item",), stations=("on", "off"), kinds=KINDS):
    return Service(list(stations), list(registers), kinds, list(rules))


def same_carry(service):
    """The carry that changes nothing."""
    return service.stations, [("held", name) for name in service.registers]


def use_lock():
    """The service of the document's example for live."""
    make = (None, "new", ALWAYS, ("here", ("fresh", 0)), (("fresh", 0),), "on")
    use = ("on", "use", ("same", "key", "lock"), ("fine",), (KEEP,), "on")
    return Service(["on"], ["lock"], [("new",), ("use", "key")], [make, use])


def change_of(first, second, carry):
    """A function that changes a house of the first service, object by object."""
    def change(house):
        new = HandHouse(second)
        new.given = house.given
        for number, (station, held) in house.objects.items():
            lines = []
            for line in carry[1]:
                given = {"self": number, "empty": None}
                lines.append(held[first.registers.index(line[1])] if line[0] == "held" else given.get(line[0], line[-1]))
            new.objects[number] = (carry[0][first.stations.index(station)], lines)
        return new
    return change


def live_by_hand(first, second, carry, texts, most):
    """What live returns, found among all talks with these texts and at most most requests."""
    found = []
    for moment in range(most):
        one = first_by_hand(first, second, texts, most, lambda request, given, answer, other: answer != other,
                            moment, change_of(first, second, carry))
        if one is not None:
            found.append((len(one[0]), moment, one))
    if not found:
        return None
    _, moment, one = min(found, key=lambda row: row[:2])
    return (moment,) + one


def carry_of(dice, first, second):
    """A rolled carry, often one that changes little."""
    if dice.dice.random() < 0.5 and first.registers == second.registers:
        stations, lines = same_carry(first)
        if dice.dice.random() < 0.7:
            lines[dice.dice.randrange(len(lines))] = dice.dice.choice([("self",), ("empty",), ("text", "a"), ("held", first.registers[0])])
        return stations, lines
    choices = [("self",), ("empty",), ("text", dice.dice.choice(["", "a", "c"]))] + [("held", name) for name in first.registers] * 2
    return [dice.dice.choice(second.stations) for _ in first.stations], [dice.dice.choice(choices) for _ in second.registers]


class CheckCarry(TestCase):

    def setUp(self):
        self.first = service_of(registers=["item", "note"], stations=["on", "off"])
        self.second = service_of(registers=["a", "b", "c"], stations=["up", "down", "gone"])
        self.lines = [("held", "note"), ("self",), ("text", "abc")]

    def good(self, stations, lines):
        self.assertIsNone(check_carry(self.first, self.second, (stations, lines)))

    def bad(self, stations, lines):
        self.assert_fails(BadCarry, None, check_carry, self.first, self.second, (stations, lines))
        self.assert_fails(BadCarry, None, live, self.first, self.second, (stations, lines))

    def test_carries(self):
        for stations in (["up", "down"], ["gone", "gone"]):
            self.good(stations, self.lines)
        for line in (("held", "item"), ("held", "note"), ("self",), ("empty",), ("text", ""), ("text", "abcdefgh")):
            self.good(["up", "up"], [line] * 3)
        first, second = service_of(registers=[], stations=["on"]), service_of(registers=[], stations=["up"])
        self.assertIsNone(check_carry(first, second, (["up"], [])))

    def test_stations(self):
        for stations in ([], ["up"], ["up", "down", "gone"], ["up", "on"], ["on", "off"], ["", "up"], ["up", "a"]):
            self.bad(stations, self.lines)

    def test_number_of_lines(self):
        for lines in ([], self.lines[:2], self.lines + [("empty",)]):
            self.bad(["up", "down"], lines)

    def test_lines(self):
        for line in (("held", "a"), ("held", "self"), ("held", ""), ("held",), ("held", "item", "note"), ("self", "item"), ("self", ""), ("empty", ""),
                     ("text", "abcdefghi"), ("text", "A"), ("text", "a?"), ("text", "*"), ("text", "a b"), ("text",), ("text", "a", "b"),
                     ("keep",), ("clear",), ("value", "item"), ("fresh", "0"), ("item",), ("",), (), ("Self",), ("none",)):
            for index in range(3):
                self.bad(["up", "down"], self.lines[:index] + [line] + self.lines[index + 1:])

    def test_requests_do_not_count(self):
        other = service_of(registers=["a"], stations=["up"], kinds=[("new", "name")])
        self.assertIsNone(check_carry(self.first, other, (["up", "up"], [("held", "item")])))
        self.assert_fails(BadCarry, None, check_carry, self.first, other, (["up"], [("held", "item")]))


class Carried(TestCase):

    def test_carried(self):
        first = service_of(registers=["item", "note"], stations=["on", "off"])
        carry = (["up", "down"], [("held", "note"), ("self",), ("text", "abc"), ("empty",), ("held", "item"), ("held", "note"), ("text", "")])
        for held, number in (([("own", 2), ("own", 0)], 5), ([None, "z"], 0), ([7, -2], 12), (["", ("own", 3)], 1)):
            for station, other in (("on", "up"), ("off", "down")):
                item = (station, list(held))
                before = copy.deepcopy((carry, item))
                found = carried(first, carry, item, number)
                self.assert_same(found, (other, [held[1], number, "abc", None, held[0], held[1], ""]))
                self.assertEqual((carry, item), before)

    def test_new_list(self):
        service = receipts()
        item = ("open", [4])
        found = carried(service, same_carry(service), item, 0)
        self.assert_same(found, item)
        found[1].append("changed")
        self.assertEqual(item, ("open", [4]))
        self.assert_same(carried(service_of(registers=[]), (["on", "off"], []), ("off", []), 3), ("off", []))


class Live(TestCase):

    def shows(self, first, second, carry, moment, talk, *answers):
        """The carry is shown so, also by two houses."""
        before = copy.deepcopy(carry)
        self.assert_same(live(first, second, carry), (moment, talk, *answers))
        self.assertEqual(carry, before)
        houses = []
        for _ in range(2):
            houses.append(HandHouse(first))
            for request in talk[:moment]:
                houses[-1].ask(request)
        houses[1] = change_of(first, second, carry)(houses[1])
        told = [[house.ask(request) for request in talk[moment:]] for house in houses]
        self.assertEqual(told[0][:-1], told[1][:-1])
        self.assertEqual((told[0][-1], told[1][-1]), answers)

    def test_examples_of_the_document(self):
        service = use_lock()
        self.assertIsNone(live(service, service, (["on"], [("held", "lock")])))
        self.shows(service, service, (["on"], [("self",)]), 1, [("new",), (0, "use", 0)], None, ("fine",))

    def test_changes_nothing(self):
        for service in (receipts(), locks(), use_lock(), service_of(), service_of(OPENING, PUTTING, GETTING), thousand()):
            self.assertIsNone(live(service, service, same_carry(service)))
            self.assertIsNone(live(service, with_rules(service, service.rules), same_carry(service)))

    def test_other_names(self):
        service = receipts()
        names = {"open": "on", "closed": "off"}
        rules = [(names.get(rule[0]), *rule[1:4], (CLEAR, *rule[4]), names[rule[5]]) for rule in service.rules]
        other = Service(["on", "off"], ["note", "token"], service.requests, rules)
        self.assertIsNone(live(service, other, (["on", "off"], [("empty",), ("held", "token")])))
        # Nothing asks for this register.
        self.assertIsNone(live(service, other, (["on", "off"], [("self",), ("held", "token")])))
        self.shows(service, other, (["off", "off"], [("empty",), ("held", "token")]), 1, [("new",), (0, "close")], ("receipt", 1), None)
        self.shows(service, other, (["on", "off"], [("held", "token"), ("empty",)]), 2,
                   [("new",), (0, "close"), (0, "claim", 1)], ("claimed",), None)

    def test_moment_0(self):
        """The services differ themselves: no object is needed ahead."""
        service = receipts()
        self.shows(service, with_rule(service, 0, answer=("no",)), same_carry(service), 0, [("new",)], ("ok", 0), ("no", 0))
        self.shows(service, receipts(NEVER), same_carry(service), 0, [("new",), (0, "close"), (0, "claim", 1)], ("claimed",), None)
        self.shows(service, receipts(ALWAYS), same_carry(service), 0, [("new",), (0, "close"), (0, "claim", "")], None, ("claimed",))
        self.assertEqual(live(service, receipts(ALWAYS), same_carry(service))[1:], difference(service, receipts(ALWAYS)))

    def test_moment_0_or_a_shorter_talk(self):
        """Fewer requests come first, then the least moment."""
        first = service_of(OPENING, GETTING)
        second = service_of(OPENING, ("on", "get", ALWAYS, ("got", ("value", "item")), (("text", "a"),), "on"))
        self.shows(first, second, same_carry(first), 0, [("new",), (0, "get"), (0, "get")], ("got", None), ("got", "a"))
        self.shows(first, second, (["on", "off"], [("self",)]), 1, [("new",), (0, "get")], ("got", None), ("got", 0))
        second = with_rule(first, 1, answer=("got", ("text", "b")))
        self.shows(first, second, (["on", "off"], [("self",)]), 0, [("new",), (0, "get")], ("got", None), ("got", "b"))

    def test_moments_behind_several_requests(self):
        service = receipts()
        self.shows(service, service, (["open", "open"], [("held", "token")]), 2,
                   [("new",), (0, "close"), (0, "close")], None, ("receipt", 2))
        self.shows(service, service, (["open", "closed"], [("empty",)]), 2,
                   [("new",), (0, "close"), (0, "claim", 1)], ("claimed",), None)
        self.shows(service, service, (["open", "closed"], [("self",)]), 2,
                   [("new",), (0, "close"), (0, "claim", 0)], None, ("claimed",))
        service = service_of(OPENING, PUTTING, GETTING)
        self.shows(service, service, (["on", "off"], [("empty",)]), 2, [("new",), (0, "put", ""), (0, "get")], ("got", ""), ("got", None))
        self.shows(service, service, (["on", "off"], [("text", "")]), 1, [("new",), (0, "get")], ("got", None), ("got", ""))

    def test_requests_behind_the_change(self):
        """The change shows only behind further requests that are answered alike."""
        moving = ("off", "put", ALWAYS, ("ok",), (KEEP,), "end")
        ending = ("end", "get", ("same", "item", "self"), ("self",), (KEEP,), "end")
        service = service_of(OPENING[:5] + ("off",), moving, ending, stations=["on", "off", "end"])
        self.shows(service, service, (["on", "off", "end"], [("self",)]), 1,
                   [("new",), (0, "put", ""), (0, "get")], None, ("self",))
        # At the moment 2 the same talk shows it too, but the moment 1 is the least.
        self.assertIsNone(live(service, service, (["on", "off", "end"], [("text", "a")])))

    def test_least_moment_with_the_fewest_requests(self):
        """At the moment 2 an earlier talk shows the carry, but at the moment 1 another one with as many requests."""
        kinds = [("new",), ("go",), ("way",), ("ask",)]
        rules = [(None, "new", ALWAYS, ("ok",), (CLEAR,), "on"), ("on", "go", ALWAYS, ("ok",), (("text", "a"),), "off"),
                 ("on", "way", ALWAYS, ("ok",), (KEEP,), "end"), ("off", "ask", ("matches", "item", "a"), ("a",), (KEEP,), "off"),
                 ("end", "ask", ("empty", "item"), ("none",), (KEEP,), "end")]
        service = service_of(*rules, kinds=kinds, stations=["on", "off", "end"])
        self.shows(service, service, (["on", "off", "end"], [("self",)]), 1, [("new",), (0, "way",), (0, "ask")], ("none",), None)
        only = with_rules(service, rules[:4])
        self.shows(only, only, (["on", "off", "end"], [("self",)]), 2, [("new",), (0, "go",), (0, "ask")], ("a",), None)

    def test_order_of_talks(self):
        asking = ("on", "put", ("same", "key", "item"), ("same",), (KEEP,), "off")
        opening = OPENING[:4] + ((("text", "b"),), "on")
        service = service_of(opening, asking)
        self.shows(service, service, (["on", "off"], [("empty",)]), 1, [("new",), (0, "put", "b")], ("same",), None)
        self.shows(service, service, (["on", "off"], [("text", "a")]), 1, [("new",), (0, "put", "a")], None, ("same",))
        self.shows(service, service, (["on", "off"], [("text", "ab")]), 1, [("new",), (0, "put", "b")], ("same",), None)
        self.shows(service, service, (["on", "off"], [("self",)]), 1, [("new",), (0, "put", "b")], ("same",), None)

    def test_own_ids(self):
        opening = OPENING[:4] + ((("fresh", 0), ("fresh", 1)), "on")
        left = ("on", "get", ALWAYS, ("got", ("value", "a"), ("value", "b")), (KEEP, KEEP), "on")
        service = service_of(opening, left, registers=["a", "b"])
        # As long as none was shown, each is as good as the other one.
        self.shows(service, service, (["on", "off"], [("held", "b"), ("held", "a")]), 2,
                   [("new",), (0, "get"), (0, "get")], ("got", 1, 2), ("got", 2, 1))
        hidden = with_rule(service, 1, answer=("got", ("value", "a")), next="off")
        self.assertIsNone(live(hidden, hidden, (["on", "off"], [("held", "b"), ("held", "a")])))
        self.shows(hidden, hidden, (["on", "on"], [("held", "b"), ("held", "a")]), 2, [("new",), (0, "get"), (0, "get")], None, ("got", 2))
        self.shows(service, service, (["on", "off"], [("held", "a"), ("held", "a")]), 1, [("new",), (0, "get")], ("got", 1, 2), ("got", 1, 1))
        shown = with_rule(service, 0, answer=("ok", ("fresh", 0)))
        self.shows(shown, shown, (["on", "off"], [("held", "b"), ("held", "a")]), 1, [("new",), (0, "get")], ("got", 1, 2), ("got", 2, 1))

    def test_own_ids_made_behind_the_change(self):
        """They are different from those that the carry has kept, wherever it has put them."""
        kinds = [("new",), ("make",), ("get",)]
        opening = (None, "new", ALWAYS, ("ok",), (("fresh", 2), CLEAR), "on")
        make = ("on", "make", ALWAYS, ("ok",), (KEEP, ("fresh", 0)), "on")
        get = ("on", "get", ALWAYS, ("got", ("value", "a"), ("value", "b")), (KEEP, KEEP), "on")
        first = service_of(opening, make, get, registers=["a", "b"], kinds=kinds)
        turned = [(*rule[:4], rule[4][::-1], rule[5]) for rule in (opening, make)]
        get_turned = get[:3] + (("got", ("value", "b"), ("value", "a")),) + get[4:]
        second = service_of(*turned, get_turned, registers=["a", "b"], kinds=kinds)
        self.assertIsNone(live(first, second, (["on", "off"], [("held", "b"), ("held", "a")])))
        self.shows(first, second, (["on", "off"], [("held", "a"), ("held", "b")]), 1,
                   [("new",), (0, "get")], ("got", 1, None), ("got", None, 1))

    def test_two_services_that_no_new_client_tells_apart(self):
        """The token stands in another register: only a carry that puts it there does."""
        first = receipts()
        rules = [(*rule[:2], ("same", "key", "paper") if rule[1] == "claim" else rule[2], rule[3],
                  (CLEAR, rule[4][0]), rule[5]) for rule in first.rules]
        second = Service(["open", "closed"], ["spare", "paper"], first.requests, rules)
        self.assertIsNone(difference(first, second))
        self.assertIsNone(live(first, second, (["open", "closed"], [("held", "token"), ("held", "token")])))
        self.shows(first, second, (["open", "closed"], [("held", "token"), ("empty",)]), 2,
                   [("new",), (0, "close"), (0, "claim", 1)], ("claimed",), None)

    def test_moment_and_several_objects(self):
        """The talk shows it in two houses of the program too, with the object carried."""
        first, second, carry = receipts(), receipts(), (["open", "closed"], [("self",)])
        moment, talk, one, other = live(first, second, carry)
        house = House(first)
        for request in talk[:moment]:
            house.ask(request)
        self.assertEqual(carried(first, carry, house.object_of(0), 0), ("closed", [0]))
        self.assertEqual((house.ask(talk[moment]), one, other), (None, None, ("claimed",)))

    def test_no_openings(self):
        for service in (service_of(), service_of(PUTTING, GETTING)):
            for line in (("self",), ("text", "a"), ("held", "item")):
                self.assertIsNone(live(service, service, (["off", "off"], [line])))

    def test_against_all_small_talks(self):
        counts = {}
        for seed in range(150):
            dice = Dice(seed)
            first = dice.small(1 + (seed % 4 == 0))
            second = dice.other(first) if seed % 3 else first
            carry = carry_of(dice, first, second)
            found = live(first, second, carry)
            most = min(3, len(found[1])) if found else 2
            texts = {"", "a"} | texts_of_talk(found[1] if found else [])
            expected = live_by_hand(first, second, carry, texts, most)
            if found is None or len(found[1]) > most:
                self.assertIsNone(expected)
            else:
                self.assertEqual(found, expected)
            key = found and (found[0], len(found[1]))
            counts[key] = counts.get(key, 0) + 1
        self.assertGreater(min(counts[None], counts[0, 2], counts[1, 2], counts[2, 3]), 2)
        self.assertTrue({(0, 1), (1, 3)} <= set(counts), counts)

    def test_new_list(self):
        service = use_lock()
        live(service, service, (["on"], [("self",)]))[1].clear()
        self.assertEqual(len(live(service, service, (["on"], [("self",)]))[1]), 2)


def asking(*patterns):
    return [("on", "put", ("matches", "key", pattern), ("ok",), (KEEP,), "on") for pattern in patterns]


def storing(names, condition=ALWAYS, opening=None):
    """A service with three registers; each request of these names stores its value in the register with its index."""
    kinds = [("new",)] + [(name, "key") for name in ("one", "two", "three")] + [("all", "key")]
    rules = [(None, "new", ALWAYS, ("ok",), opening or (CLEAR,) * 3, "on")]
    for index, name in enumerate(("one", "two", "three")):
        if name in names:
            rules.append(("on", name, condition, ("ok",), tuple(("value", "key") if at == index else KEEP for at in range(3)), "on"))
    return Service(["on", "off"], ["left", "mid", "right"], kinds, rules)


TOLD = ("or",) + tuple(("matches", "key", letter) for letter in "abcdefghi")


class Errors(TestCase):

    def test_order(self):
        """A bad carry, other requests, patterns, states, classes, kinds."""
        bad, good = (["on"], [("self",)]), (["on", "off"], [("self",)])
        other = service_of(kinds=KINDS[:2])
        many = {TooManyPatterns: list("abcdefghijklm"), TooManyStates: STATES_401, TooManyClasses: ["*a*", "*b*", "*c*", "*d*"] + list("efghijklm")}
        self.assert_fails(BadCarry, None, live, service_of(), other, bad)
        self.assert_fails(OtherRequests, None, live, service_of(), other, good)
        for kind, patterns in many.items():
            service = service_of(*asking(*patterns))
            self.assert_fails(BadCarry, None, live, service, service, bad)
            self.assert_fails(BadCarry, None, live, service, other, bad)
            self.assert_fails(OtherRequests, None, live, service, other, good)
            self.assert_fails(OtherRequests, None, live, other, service, good)
            self.assert_fails(kind, None, live, service, service_of(), good)
            self.assert_fails(kind, None, live, service_of(), service, good)
            self.assert_fails(kind, None, live, service_of(*asking(*patterns[:4])), service_of(*asking(*patterns[4:])), good)
        service = thousand(True)
        self.assert_fails(BadCarry, None, live, service, service, bad)
        self.assert_fails(OtherRequests, None, live, service, service_of(registers=["item"]), (["on", "off"], [("held", "left")]))

    def test_texts_of_the_carry_are_patterns(self):
        first, second = service_of(*asking(*"abcdef")), service_of(*asking(*"ghijkl"))
        self.assertIsNone(live(first, second, (["on", "off"], [("text", "a")])))
        self.assertIsNone(live(first, second, (["on", "off"], [("text", "l")])))
        self.assert_fails(TooManyPatterns, None, live, first, second, (["on", "off"], [("text", "m")]))
        self.assert_fails(TooManyPatterns, None, live, first, second, (["on", "off"], [("text", "")]))
        first = service_of(*asking(*STATES_401[:-1]))
        self.assertIsNone(live(first, first, (["on", "off"], [("text", STATES_401[-2])])))
        self.assert_fails(TooManyStates, None, live, first, first, (["on", "off"], [("text", STATES_401[-1])]))
        first = service_of(*asking("*a*", "*b*", "*c*", "*d*", *"efghijkl"))
        self.assertIsNone(live(first, first, (["on", "off"], [("text", "e")])))
        self.assert_fails(TooManyClasses, None, live, first, first, (["on", "off"], [("text", "ab")]))

    def test_too_many_kinds_of_the_two_services(self):
        """The first one alone reaches few pairs, and its changed objects part at once."""
        second = storing(["one", "two", "three"], TOLD)
        first = with_rules(second, [second.rules[0], *[(*rule[:4], (KEEP,) * 3, rule[5]) for rule in second.rules[1:]]])
        more = ("on", "all", ALWAYS, ("ok",), (KEEP,) * 3, "off")
        carry = (["off", "off"], same_carry(first)[1])
        # 1000 kinds are not too many.
        self.assertEqual(live(first, second, carry), (1, [("new",), (0, "one", "a")], ("ok",), None))
        first, second = with_rules(first, [*first.rules, more]), with_rules(second, [*second.rules, more])
        self.assert_fails(TooManyKinds, None, live, first, second, carry)
        self.assertEqual(live(first, first, carry), (1, [("new",), (0, "one", "a")], ("ok",), None))

    def test_too_many_kinds_of_the_first_one(self):
        """The two services part at the opening, and carried objects part at once or are few."""
        first = thousand(True)
        second = Service(["on", "off"], [], first.requests, [(None, "new", ALWAYS, ("no",), (), "off")])
        self.assert_fails(TooManyKinds, None, live, first, second, (["off", "off"], []))
        few = thousand()
        self.shows_at_once(few, second, (["off", "off"], []))

    def shows_at_once(self, first, second, carry):
        self.assertEqual(live(first, second, carry), (0, [("new",)], ("ok", 0), ("no", 0)))

    def test_too_many_kinds_behind_the_change(self):
        """Neither the first service nor both of them reach many pairs, but the changed objects do."""
        first = storing(["one", "two", "three"], TOLD)
        idle = with_rules(first, [first.rules[0], *[(*rule[:4], (KEEP,) * 3, rule[5]) for rule in first.rules[1:]],
                                  ("on", "all", ALWAYS, ("ok",), (KEEP,) * 3, "off")])
        # Objects of the first one hold nothing; the second one parts at its opening, else it stores what it is told.
        second = with_rules(first, [(*first.rules[0][:3], ("no",), *first.rules[0][4:]), *first.rules[1:],
                                    ("on", "all", ALWAYS, ("ok",), (KEEP,) * 3, "off")])
        self.assert_fails(TooManyKinds, None, live, idle, second, same_carry(first))
        self.shows_at_once(idle, second, (["off", "off"], same_carry(first)[1]))
        self.shows_at_once(with_rules(idle, idle.rules[:-1]), with_rules(second, second.rules[:-1]), same_carry(first))

    def test_kinds_for_all_patterns(self):
        """The patterns of the second service and the texts of the carry part the objects of the first one."""
        first = storing(["one", "two", "three"])

        def other(letters):
            """It parts at the opening and answers nothing else: its rules with patterns are for another station."""
            rules = [("on", "one", ("matches", "key", letter), ("ok",), (KEEP,) * 3, "off") for letter in letters]
            return with_rules(first, [(None, "new", ALWAYS, ("no",), (CLEAR,) * 3, "off"), *rules])

        self.assertIsNone(live(first, first, same_carry(first)))
        for letters, texts, fails in (("", "abc", False), ("abcde", "", False), ("abcdef", "", True), ("abcde", "abc", False),
                                      ("abcde", "cdf", True), ("abc", "def", True), ("abc", "dee", False)):
            carry = (["off", "off"], ([("text", text) for text in texts] + [("empty",)] * 3)[:3])
            if fails:
                self.assert_fails(TooManyKinds, None, live, first, other(letters), carry)
            else:
                self.shows_at_once(first, other(letters), carry)


if __name__ == "__main__":
    unittest.main()
