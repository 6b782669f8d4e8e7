import unittest

from helper import ALWAYS, CLEAR, KEEP, NEVER, Dice, HandHouse, TestCase, locks, receipts
from talkalike.alone import alone
from talkalike.errors import BadRequest, NotAnObject, NotGiven
from talkalike.house import run_talk
from talkalike.services import Service

KINDS = [("new", "name", "key"), ("put", "key", "text", "more"), ("show",)]


def shower():
    """Opens with three ids, refuses the name "no", keeps what is put, and shows two new ids beside it."""
    return Service(["open"], ["kept"], KINDS, [
        (None, "new", ("not", ("matches", "name", "no")), ("made", ("fresh", 1), ("fresh", 0), ("value", "name")), (CLEAR,), "open"),
        ("open", "put", ("not", ("matches", "text", "no")), ("put", ("value", "more")), (("value", "key"),), "open"),
        ("open", "show", ALWAYS, ("shown", ("fresh", 2), ("value", "kept"), ("fresh", 2), ("fresh", 0)), (KEEP,), "open"),
    ])


class Case(TestCase):

    def check(self, talk, number, own, names, service=None):
        """What alone returns, and that the talk and its answers fit to it."""
        service = service or shower()
        before = list(talk)
        found = alone(service, talk, number)
        self.assert_same(found, (own, names))
        self.assertEqual(talk, before)
        self.assertEqual(run_talk(service, own), self.renamed_answers(service, talk, number, dict(names)))

    @staticmethod
    def renamed_answers(service, talk, number, names):
        found = []
        for request, answer in zip(talk, run_talk(service, talk)):
            if request[0] == number or request[0] == "new" and answer is not None and answer[1] == number:
                found.append(answer and answer[:1] + tuple(names[one] if type(one) is int else one for one in answer[1:]))
        return found


class Talks(Case):

    def test_one_object(self):
        talk = [("new",), (0, "close"), (0, "claim", 1), (0, "claim", 1)]
        self.check(talk, 0, talk, [(0, 0), (1, 1)], receipts())
        self.check([("new",)], 0, [("new",)], [(0, 0)], receipts())

    def test_second_object(self):
        talk = [("new",), ("new",), (0, "close"), (1, "close"), (1, "claim", 2), (1, "claim", 3), (0, "claim", 3)]
        self.check(talk, 1, [("new",), (0, "close"), (0, "claim", -1), (0, "claim", 1)], [(1, 0), (3, 1), (2, -1)],
                   receipts())
        self.check(talk, 0, [("new",), (0, "close"), (0, "claim", -1)], [(0, 0), (2, 1), (3, -1)], receipts())

    def test_opening_that_gives_several_ids(self):
        self.check([("new", "a", "b"), (0, "show")], 0, [("new", "a", "b"), (0, "show")],
                   [(0, 0), (1, 1), (2, 2), (3, 3), (4, 4)])
        self.check([("new", "a", "b"), ("new", 2, 0), (3, "show"), (0, "show"), (3, "show")], 3,
                   [("new", -1, -2), (0, "show"), (0, "show")],
                   [(2, -1), (0, -2), (3, 0), (4, 1), (5, 2), (6, 3), (7, 4), (10, 5), (11, 6)])

    def test_order_of_names(self):
        """The values of a request get theirs in order, ahead of the ids that its answer gives."""
        talk = [("new", "a", "b"), ("new", -7, -3), (3, "put", 1, -5, -3), (3, "show"), (3, "put", -9, 1, 7), (3, "put", 6, 2, 0)]
        self.check(talk, 3,
                   [("new", -1, -2), (0, "put", -3, -4, -2), (0, "show"), (0, "put", -5, -3, 4), (0, "put", 3, -6, -7)],
                   [(-7, -1), (-3, -2), (3, 0), (4, 1), (5, 2), (1, -3), (-5, -4), (6, 3), (7, 4), (-9, -5), (2, -6), (0, -7)])

    def test_an_id_twice_in_a_request(self):
        self.check([("new", -4, -4), (0, "put", -4, -8, -8)], 0, [("new", -1, -1), (0, "put", -1, -2, -2)],
                   [(-4, -1), (0, 0), (1, 1), (2, 2), (-8, -2)])

    def test_own_ids_and_the_object_among_the_values(self):
        talk = [("new", "x", "y"), ("new", "a", "b"), (3, "put", 3, 5, 4), (3, "show")]
        self.check(talk, 3, [("new", "a", "b"), (0, "put", 0, 2, 1), (0, "show")], [(3, 0), (4, 1), (5, 2), (6, 3), (7, 4)])

    def test_texts_stay(self):
        self.check([("new", "new", "put"), (0, "put", "a", "zz", "")], 0, [("new", "new", "put"), (0, "put", "a", "zz", "")],
                   [(0, 0), (1, 1), (2, 2)])

    def test_refused_requests(self):
        """They stay in the talk, and the ids among their values get names."""
        talk = [("new", "no", -1), ("new", "a", "b"), (0, "put", -3, "no", -4), ("new", "no", -2), (0, "put", -4, "a", -3), (1, "show")]
        self.check(talk, 0, [("new", "a", "b"), (0, "put", -1, "no", -2), (0, "put", -2, "a", -1)],
                   [(0, 0), (1, 1), (2, 2), (-3, -1), (-4, -2)])

    def test_requests_to_others_are_left_out(self):
        talk = [("new", "a", "b"), (-1, "show"), (1, "show"), (0, "show"), (2, "put", "a", "b", "c")]
        self.check(talk, 0, [("new", "a", "b"), (0, "show")], [(0, 0), (1, 1), (2, 2), (3, 3), (4, 4)])

    def test_example_of_the_document(self):
        talk = [("new", "eve"), ("new", "ann"), (1, "show"), (0, "show"), (1, "take", 4), (1, "take", 2)]
        self.check(talk, 1, [("new", "ann"), (0, "show"), (0, "take", -1), (0, "take", 1)],
                   [(1, 0), (2, 1), (3, 2), (4, -1)], locks())


class Errors(Case):

    def test_no_object(self):
        talk = [("new", "a", "b"), ("new", "no", "b"), (1, "show"), (-1, "show"), (0, "show")]
        for number in (1, 2, 3, 4, 5, -1, -2, 10 ** 30):
            self.assert_fails(NotAnObject, number, alone, shower(), talk, number)
        self.assert_fails(NotAnObject, 0, alone, shower(), [], 0)

    def test_refused_opening(self):
        self.assert_fails(NotAnObject, 0, alone, shower(), [("new", "no", "a")], 0)
        service = Service(["open"], [], [("new",)], [(None, "new", NEVER, ("ok",), (), "open")])
        self.assert_fails(NotAnObject, 0, alone, service, [("new",), ("new",)], 0)

    def test_errors_of_the_talk(self):
        good = ("new", "a", "b")
        self.assert_fails(BadRequest, 1, alone, shower(), [good, ("new",), (9, "show")], 0)
        self.assert_fails(NotGiven, (1, 0), alone, shower(), [good, (9, "show")], 0)
        self.assert_fails(NotGiven, (1, 3), alone, shower(), [good, (0, "put", 1, 3, 4)], 0)

    def test_which_comes_first(self):
        good = ("new", "a", "b")
        self.assert_fails(BadRequest, 1, alone, shower(), [(9, "show"), ()], 7)
        self.assert_fails(NotGiven, (1, 0), alone, shower(), [good, (9, "show")], 7)


class Rolled(Case):

    def test_answers_and_names(self):
        named = 0
        for seed in range(200):
            dice = Dice(seed)
            service = dice.service()
            talk = dice.talk(service, 10)
            house = HandHouse(service)
            for request in talk:
                house.ask(request)
            for number in house.objects:
                own, names = alone(service, talk, number)
                self.assertEqual(names, names_by_hand(service, talk, number))
                new = dict(names)
                self.assertEqual(len(new), len(set(new.values())))
                self.assertEqual(new[number], 0)
                self.assertEqual(run_talk(service, own), self.renamed_answers(service, talk, number, new))
                named += len(names)
        self.assertGreater(named, 500)

    def test_new_lists(self):
        talk = [("new",)]
        for part in alone(receipts(), talk, 0):
            part.append("changed")
        self.assertEqual(alone(receipts(), talk, 0), ([("new",)], [(0, 0)]))
        self.assertEqual(talk, [("new",)])


def names_by_hand(service, talk, number):
    house, names = HandHouse(service), []
    for request in talk:
        given = house.given
        answer = house.ask(request)
        if request[0] == "new" and (answer is None or answer[1] != number) or request[0] not in ("new", number):
            continue
        for value in request[1 if request[0] == "new" else 2:]:
            if type(value) is int and value not in dict(names):
                names.append((value, min([0] + [name for _, name in names]) - 1))
        for one in range(given, house.given):
            names.append((one, max([-1] + [name for _, name in names]) + 1))
    return names


if __name__ == "__main__":
    unittest.main()
