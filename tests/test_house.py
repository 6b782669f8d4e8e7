import itertools
import unittest

from helper import ALWAYS, CLEAR, KEEP, NEVER, Dice, HandHouse, TestCase, locks, receipts, run_by_hand
from talkalike.errors import BadRequest, NotGiven
from talkalike.house import House, run_talk
from talkalike.services import Service

KINDS = [("new", "name"), ("put", "key", "text"), ("get",)]


def keeper():
    """Keeps an own id and what was put into it, refuses the name "no", and tells what it keeps."""
    return Service(["open", "closed"], ["lock", "last"], KINDS, [
        (None, "new", ("not", ("matches", "name", "no")), ("made", ("value", "name"), ("fresh", 0)), (("fresh", 1), CLEAR), "open"),
        ("open", "put", ("matches", "text", "fresh"), ("ok",), (KEEP, ("fresh", 0)), "open"),
        ("open", "put", ALWAYS, ("ok", ("value", "self")), (KEEP, ("value", "key")), "open"),
        ("open", "get", ALWAYS, ("kept", ("value", "lock"), ("value", "last")), (KEEP, KEEP), "closed"),
    ])


class Case(TestCase):

    def state(self, house, numbers=range(-3, 12)):
        return house.objects(), house.given(), [house.object_of(number) for number in numbers]

    def fails(self, kind, place, house, request):
        before = self.state(house)
        self.assert_fails(kind, place, house.ask, request)
        self.assertEqual(self.state(house), before)


class Ask(Case):

    def test_beginning(self):
        self.assertEqual(self.state(House(keeper())), ([], 0, [None] * 15))

    def test_example(self):
        house = House(locks())
        for request, answer in ((("new", "ann"), ("made", 0, "ann")), ((0, "show"), ("lock", 1, 2)), ((0, "show"), ("lock", 1, 3)),
                                ((0, "take", 2), None), ((0, "take", 1), ("taken",)), ((0, "take", 1), None)):
            self.assert_same(house.ask(request), answer)
        self.assertEqual((house.objects(), house.given(), house.object_of(0)), ([0], 4, ("open", [None])))

    def test_id_of_a_new_object(self):
        house = House(keeper())
        self.assert_same(house.ask(("new", "a")), ("made", 0, "a", 1))
        self.assert_same(house.ask(("new", 1)), ("made", 2, 1, 3))
        self.assert_same(house.ask((0, "get")), ("kept", 4, None))
        self.assert_same(house.ask(("new", -5)), ("made", 5, -5, 6))
        self.assertEqual((house.objects(), house.given()), ([0, 2, 5], 7))

    def test_refused_opening(self):
        house = House(keeper())
        for count in (0, 2):
            before = self.state(house)
            self.assertIsNone(house.ask(("new", "no")))
            self.assertEqual(self.state(house), before)
            self.assertEqual(house.given(), count)
            house.ask(("new", "a"))

    def test_refused_request(self):
        house = House(keeper())
        house.ask(("new", "a"))
        house.ask((0, "get"))
        before = self.state(house)
        for request in ((0, "get"), (0, "put", "", ""), (0, "put", 1, 0)):
            self.assertIsNone(house.ask(request))
            self.assertEqual(self.state(house), before)

    def test_ids_of_no_object(self):
        house = House(keeper())
        house.ask(("new", "a"))
        before = self.state(house)
        # 1 was given, but is the id of no object.
        for number in (1, -1, -2, -10 ** 30):
            self.assertIsNone(house.ask((number, "get")))
            self.assertIsNone(house.ask((number, "put", number, "a")))
            self.assertEqual(self.state(house), before)

    def test_each_object_by_itself(self):
        house = House(keeper())
        for request in (("new", "a"), ("new", "b"), (0, "put", "c", "d"), (2, "put", "e", "f"), (2, "get")):
            house.ask(request)
        self.assert_same(house.object_of(0), ("open", [("own", 0), "c"]))
        self.assert_same(house.object_of(2), ("closed", [4, "e"]))

    def test_bad_requests(self):
        house = House(keeper())
        house.ask(("new", "a"))
        for request in ((), ("new",), ("new", "A"), ("new", None), ("new", "a", "b"), (0,), (0, "take"), (0, "new", "a"), ("get",),
                        ("0", "get"), (None, "get"), (0, "get", "a"), (0, "put", "a"), (True, "get"), (0, "put", False, "a"),
                        (0, "put", ("own", 0), "a"), (99, "take"), (99, "put", "A", 99)):
            self.fails(BadRequest, None, house, request)

    def test_ids_that_were_not_given(self):
        house = House(keeper())
        self.fails(NotGiven, 1, house, ("new", 0))
        self.fails(NotGiven, 0, house, (0, "get"))
        house.ask(("new", "a"))
        for request, place in ((("new", 2), 1), ((2, "get"), 0), ((0, "put", 2, "a"), 2), ((0, "put", "a", 2), 3), ((0, "put", 2, 2), 2),
                               ((5, "put", 6, 7), 0), ((0, "put", 10 ** 30, "a"), 2), ((-1, "put", -1, 2), 3), ((1, "put", 1, 9), 3)):
            self.fails(NotGiven, place, house, request)
        self.assertIsNotNone(house.ask((0, "put", 1, 1)))

    def test_arguments_stay(self):
        service, request = keeper(), ("new", "a")
        rules = service.rules
        House(service).ask(request)
        self.assertEqual((service.rules, request), (rules, ("new", "a")))

    def test_two_houses_of_one_service(self):
        service = keeper()
        one, other = House(service), House(service)
        one.ask(("new", "a"))
        one.ask((0, "get"))
        self.assertEqual(self.state(other), ([], 0, [None] * 15))
        self.assertEqual(other.ask(("new", "b")), ("made", 0, "b", 1))
        self.assertEqual(other.object_of(0), ("open", [("own", 0), None]))
        self.assertEqual(one.object_of(0), ("closed", [2, None]))


class Reading(Case):

    def test_own_ids_numbered_anew(self):
        kinds = [("new",), ("more",), ("swap",), ("twice",), ("show",)]
        def rule(name, turn, *sources):
            return None, name, ALWAYS, ("ok",) + sources, turn, "open"
        house = House(Service(["open"], ["a", "b", "c"], kinds, [
            rule("new", (("fresh", 2), ("fresh", 0), ("fresh", 2))),
            rule("more", (KEEP, ("fresh", 1), CLEAR)),
            rule("swap", (("value", "b"), ("value", "a"), ("value", "a"))),
            rule("twice", (("value", "self"), ("value", "b"), ("value", "b"))),
            rule("show", (KEEP, KEEP, KEEP), ("value", "a")),
        ]))
        house.ask(("new",))
        expected = [("new", [("own", 0), ("own", 1), ("own", 0)]), ("swap", [("own", 0), ("own", 1), ("own", 1)]),
                    ("more", [("own", 0), ("own", 1), None]), ("swap", [("own", 0), ("own", 1), ("own", 1)]),
                    ("twice", [0, ("own", 0), ("own", 0)]), ("more", [0, ("own", 0), None]), ("swap", [("own", 0), 0, 0]),
                    ("show", [1, 0, 0]), ("more", [1, ("own", 0), None]), ("swap", [("own", 0), 1, 1])]
        for name, held in expected:
            if name != "new":
                house.ask((0, name))
            self.assert_same(house.object_of(0), ("open", held))

    def test_returned_lists_changed_afterwards(self):
        house = House(keeper())
        house.ask(("new", "a"))
        before = self.state(house)
        house.objects().append(7)
        house.object_of(0)[1].append("changed")
        house.object_of(0)[1][0] = None
        self.assertEqual(self.state(house), before)
        self.assertEqual(house.ask((0, "get")), ("kept", 2, None))

    def test_what_was_read_stays(self):
        house = House(keeper())
        house.ask(("new", "a"))
        before = house.object_of(0)
        numbers = house.objects()
        house.ask((0, "put", "b", "c"))
        house.ask(("new", "b"))
        self.assertEqual((before, numbers), (("open", [("own", 0), None]), [0]))

    def test_no_object(self):
        house = House(keeper())
        house.ask(("new", "a"))
        for number in (-1, 1, 2, 10 ** 30):
            self.assertIsNone(house.object_of(number))


class RunTalk(Case):

    def test_examples(self):
        self.assert_same(run_talk(receipts(), [("new",), (0, "close"), (0, "claim", 1), (0, "claim", 1)]),
                         [("ok", 0), ("receipt", 1), ("claimed",), None])
        self.assert_same(run_talk(locks(), [("new", "ann"), (0, "show"), (0, "show"), (0, "take", 2), (0, "take", 1), (0, "take", 1)]),
                         [("made", 0, "ann"), ("lock", 1, 2), ("lock", 1, 3), None, ("taken",), None])

    def test_empty_talk(self):
        self.assert_same(run_talk(keeper(), []), [])

    def test_bad_requests(self):
        good = ("new", "a")
        for bad in ((), ("new",), (0, "take"), (0, "get", "a"), (0, "put", "a", "A"), (None, "get")):
            self.assert_fails(BadRequest, 0, run_talk, keeper(), [bad])
            self.assert_fails(BadRequest, 2, run_talk, keeper(), [good, good, bad, good, bad])

    def test_ids_that_were_not_given(self):
        good = ("new", "a")
        for talk, place in (([(0, "get")], (0, 0)), ([("new", 0)], (0, 1)), ([good, (0, "put", 1, 2)], (1, 3)),
                            ([good, good, (0, "put", 3, 4), (9, "get")], (2, 3)), ([good, (0, "get"), (0, "put", 3, 3)], (2, 2)),
                            ([("new", "no"), (0, "get")], (1, 0)), ([good, ("new", 2), ("new", 9)], (1, 1))):
            self.assert_fails(NotGiven, place, run_talk, keeper(), talk)

    def test_bad_request_behind_an_id_that_was_not_given(self):
        self.assert_fails(BadRequest, 1, run_talk, keeper(), [(0, "get"), (0, "take")])
        self.assert_fails(BadRequest, 3, run_talk, keeper(), [("new", "a"), ("new", 9), (9, "get"), ()])
        self.assert_fails(NotGiven, (0, 0), run_talk, keeper(), [(0, "get"), (0, "put", "a", "b")])

    def test_arguments_stay(self):
        talk = [("new", "a"), (0, "get")]
        run_talk(keeper(), talk).append("changed")
        self.assertEqual(talk, [("new", "a"), (0, "get")])

    def test_refused_service(self):
        service = Service(["open"], [], [("new",), ("get",)], [(None, "new", NEVER, ("ok",), (), "open")])
        self.assertEqual(run_talk(service, [("new",), (-1, "get"), ("new",)]), [None, None, None])


class AgainstTheDefinition(Case):

    def test_rolled_talks(self):
        answered = 0
        for seed in range(400):
            dice = Dice(seed)
            service = dice.service()
            talk = dice.talk(service, 10)
            answers = run_by_hand(service, talk)
            self.assert_same(run_talk(service, talk), answers)
            answered += len([answer for answer in answers if answer is not None])
            house, by_hand = House(service), HandHouse(service)
            for request in talk:
                house.ask(request)
                by_hand.ask(request)
                self.assertEqual(house.given(), by_hand.given)
                self.assertEqual(house.objects(), list(by_hand.objects))
                for number in range(-1, by_hand.given + 1):
                    self.assert_same(house.object_of(number), by_hand.object_of(number))
        self.assertGreater(answered, 1000)

    def test_all_short_talks(self):
        service = receipts()
        requests = [("new",)] + [(number, "close") for number in (-1, 0, 1)]
        requests += [(number, "claim", value) for number in (0, 1) for value in ("", 0, 1, -1)]
        told = 0
        for talk in itertools.product(requests, repeat=3):
            house, expected = HandHouse(service), []
            for index, request in enumerate(talk):
                if any(type(item) is int and item >= house.given for item in request):
                    place = [type(item) is int and item >= house.given for item in request].index(True)
                    self.assert_fails(NotGiven, (index, place), run_talk, service, list(talk))
                    break
                expected.append(house.ask(request))
            else:
                told += 1
                self.assertEqual(run_talk(service, list(talk)), expected)
        self.assertGreater(told, 20)


if __name__ == "__main__":
    unittest.main()
