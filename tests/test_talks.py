import itertools
import unittest

from helper import NO_STRINGS, TestCase
from talkalike.errors import BadKinds, BadRequest
from talkalike.talks import (check_kinds, check_request, check_talk, compare_requests, compare_talks, is_name,
                             is_opening, kind_number, least_talk, name_of, values_of)

KINDS = [("new", "name"), ("put", "text", "key"), ("get",), ("take", "key")]

# In the order of requests of these kinds.
REQUESTS = (
    [("new", ""), ("new", "b"), ("new", "aa"), ("new", -1), ("new", -2), ("new", 0), ("new", 7)] +
    [(-1, "put", "z", "z"), (-2, "put", "", ""), (0, "put", "", ""), (0, "put", "", "a"), (0, "put", "", 0),
     (0, "put", "b", ""), (0, "put", -3, "a"), (0, "put", -3, -1), (0, "put", 5, ""), (10, "put", "", "")] +
    [(-1, "get"), (-10, "get"), (0, "get"), (2, "get"), (10, "get")] +
    [(-3, "take", 4), (3, "take", "a"), (3, "take", -4), (3, "take", 4)]
)


class Names(unittest.TestCase):

    def test_names(self):
        for value in ("a", "z", "new", "self", "abcdefghijkl", "zzzzzzzzzzzz"):
            self.assertIs(is_name(value), True)

    def test_others(self):
        for value in ["", "abcdefghijklm", "A", "aB", "a1", "a b", " a", "a\n", "?", "a*", "-", "\u00e9", "_",
                      "a_b"] + NO_STRINGS:
            self.assertIs(is_name(value), False, value)


class Kinds(TestCase):

    def test_accepted(self):
        for kinds in ([("new",)], KINDS, [("new", "a", "b", "c")], [("new",), ("a", "a")], [("new", "new")],
                      [("new", "key"), ("put", "key")], [("new", "put"), ("put", "new")], [("new",), ("self",)],
                      [("new",), ("a",), ("b",), ("c",), ("d",), ("e",)], [("new",), ("abcdefghijkl", "mnopqrstuvwx")],
                      [("new", "x"), ("a", "y"), ("b", "x", "y", "z")]):
            before = [tuple(kind) for kind in kinds]
            self.assertIsNone(check_kinds(kinds))
            self.assertIsNone(check_kinds(kinds, []))
            self.assertIsNone(check_kinds(kinds, ("owner", "secret")))
            self.assertEqual(kinds, before)

    def test_rejected(self):
        for kinds in (
            [], [()], [("new",), ()], [("get",)], [("get",), ("new",)], [("new",), ("new",)],
            [("new",), ("a",), ("b",), ("c",), ("d",), ("e",), ("f",)], [("new", "a", "b", "c", "d")],
            [("new",), ("put", "a", "b", "c", "d")], [("new",), ("a",), ("b",), ("a", "x")], [("new", "a", "a")],
            [("new",), ("put", "a", "b", "a")], [("new", "self")], [("new",), ("put", "a", "self")], [("new", "")],
            [("new",), ("",)], [("new",), ("Put",)], [("new",), ("put", "a b")], [("new",), ("put", "a1")],
            [("new",), ("abcdefghijklm",)], [("new",), ("put", "abcdefghijklm")], [("new",), (None,)], [("new",), (0,)],
            [("new",), ("put", 0)], [("new",), ("put", True)], [("new",), ("put", None)], [("new",), ("put", ["a"])],
            [("new",), (["a"], "a")], [("new",), (("a",),)], [("newer",)], [("New",)], [("new\n",)], [(None,)],
            [(True,)], [("new",), ("get",), ("new", "a")],
        ):
            self.assert_fails(BadKinds, None, check_kinds, kinds)

    def test_registers(self):
        self.assert_fails(BadKinds, None, check_kinds, [("new", "owner")], ["owner"])
        self.assert_fails(BadKinds, None, check_kinds, [("new",), ("put", "text", "lock")], ("owner", "lock"))
        self.assertIsNone(check_kinds([("new",), ("owner",)], ["owner"]))
        self.assertIsNone(check_kinds([("new", "owner")], ["owners", "owne"]))
        registers = ["new", "put"]
        self.assertIsNone(check_kinds([("new",), ("put",)], registers))
        self.assertEqual(registers, ["new", "put"])

    def test_kind_number(self):
        self.assertEqual([kind_number(KINDS, name) for name in ("new", "put", "get", "take")], [0, 1, 2, 3])
        for name in ("", "text", "key", "ge", "self"):
            self.assertIsNone(kind_number(KINDS, name))
        self.assertIs(kind_number(KINDS, "new") is None, False)


class Requests(TestCase):

    def test_parts(self):
        for request, opening, name, values in (
            (("new",), True, "new", ()), (("new", "a", -1), True, "new", ("a", -1)), (("new", "new"), True, "new", ("new",)),
            ((0, "get"), False, "get", ()), ((-3, "put", "", 4), False, "put", ("", 4)),
            ((5, "take", "new"), False, "take", ("new",)),
        ):
            self.assertIs(is_opening(request), opening)
            self.assertEqual(name_of(request), name)
            self.assertEqual(values_of(request), values)
            self.assertIs(type(values_of(request)), tuple)

    def test_accepted(self):
        for request in REQUESTS + [("new", "new"), (-10 ** 30, "get"), (10 ** 40, "take", 10 ** 40)]:
            self.assertIsNone(check_request(KINDS, request))
            self.assertIsNone(check_request(KINDS, request, 3))

    def test_rejected(self):
        for request in (
            (), ("new",), ("new", "a", "b"), ("new", True), ("new", None), ("new", "A"), ("new", ("a",)), ("new", ["a"]),
            ("new", "a\n"), ("New", "a"), (0,), (-1,), (0, "get", "a"), (0, "put", "a"), (0, "put", "a", "b", "c"),
            (0, "take"), (0, "other"), (0, "new"), (0, "new", "a"), (0, ""), (0, "text"), (0, None), (0, 0), (0, True),
            (0, ["get"]), (0, ("get",)), (True, "get"), (False, "get"), (None, "get"), ("a", "get"), ("", "get"),
            ("get",), ("get", 0), ("0", "get"), ((0,), "get"), ([0], "get"), (0, "take", False), (0, "put", "a", None),
            (0, "put", "A", "b"), (0, "take", "a b"), (0, "take", ("own", 0)), (0, "take", "?"), ("put", "a", "b"),
        ):
            self.assert_fails(BadRequest, None, check_request, KINDS, request)
            self.assert_fails(BadRequest, 0, check_request, KINDS, request, 0)
            self.assert_fails(BadRequest, "here", check_request, KINDS, request, "here")
            self.assert_fails(BadRequest, 1, check_talk, KINDS, [("new", "a"), request, ()])
            self.assert_fails(BadRequest, 0, check_talk, KINDS, [request])

    def test_other_kinds(self):
        self.assertIsNone(check_request([("new",)], ("new",)))
        self.assert_fails(BadRequest, None, check_request, [("new",)], ("new", "a"))
        self.assertIsNone(check_request([("new", "a", "b", "c")], ("new", "a", 0, -1)))

    def test_talks(self):
        talk = list(REQUESTS)
        self.assertIsNone(check_talk(KINDS, talk))
        self.assertEqual(talk, list(REQUESTS))
        self.assertIsNone(check_talk(KINDS, []))
        self.assert_fails(BadRequest, len(REQUESTS), check_talk, KINDS, talk + [(True, "get")])
        self.assert_fails(BadRequest, 0, check_talk, KINDS, [(0, "new", "a")] + talk)


class Order(unittest.TestCase):

    def check_order(self, compare, things):
        for (at, first), (to, second) in itertools.product(enumerate(things), repeat=2):
            self.assertEqual(compare(KINDS, first, second), (at > to) - (at < to), (first, second))

    def test_requests(self):
        self.check_order(compare_requests, REQUESTS)

    def test_example(self):
        kinds = [("new",), ("put", "text"), ("get",)]
        self.assertEqual(compare_talks(kinds, [("new",), (0, "get")], [("new",), (0, "put", "z")]), 1)

    def test_order_of_kinds_not_of_names(self):
        kinds = [("new",), ("zz",), ("aa",)]
        self.assertEqual(compare_requests(kinds, (9, "zz"), (-1, "aa")), -1)
        self.assertEqual(compare_requests(kinds, (-1, "zz"), ("new",)), 1)

    def test_talks(self):
        new = ("new", "b")
        self.check_order(compare_talks, [
            [], [("new", "")], [new], [(0, "get")], [(3, "take", 4)],
            [("new", ""), (3, "take", 4)], [new, ("new", "")], [new, (0, "put", "", "a")], [new, (0, "put", "", 0)],
            [new, (-1, "get")], [new, (0, "get")], [(0, "get"), ("new", "")],
            [("new", ""), ("new", ""), ("new", "")], [new, (0, "get"), (0, "get")], [new, (0, "get"), (0, "take", "")],
            [new, (0, "get"), (0, "take", -1)],
        ])

    def test_talk_before_longer_talk(self):
        talk = [("new", "a"), (0, "get")]
        self.assertEqual(compare_talks(KINDS, talk, talk + [("new", "")]), -1)
        self.assertEqual(compare_talks(KINDS, talk + [("new", "")], talk), 1)
        self.assertEqual(compare_talks(KINDS, talk, list(talk)), 0)


class Arguments(unittest.TestCase):

    def test_arguments_stay(self):
        kinds, first, second = list(KINDS), list(REQUESTS), list(reversed(REQUESTS))
        check_talk(kinds, first)
        check_request(kinds, first[0])
        kind_number(kinds, "get")
        compare_requests(kinds, first[0], second[0])
        compare_talks(kinds, first, second)
        least_talk(kinds, [first, second])
        self.assertEqual((kinds, first, second), (KINDS, REQUESTS, REQUESTS[::-1]))


class LeastTalk(unittest.TestCase):

    def test_no_talks(self):
        self.assertIsNone(least_talk(KINDS, []))

    def test_first_in_order(self):
        one, two, three = [(0, "get")], [("new", "b"), (0, "get")], [("new", "b"), (0, "put", "zz", 9)]
        for talks in itertools.permutations([one, two, three]):
            self.assertEqual(least_talk(KINDS, list(talks)), one)
        self.assertEqual(least_talk(KINDS, [two, three]), three)
        self.assertEqual(least_talk(KINDS, [two]), two)
        self.assertEqual(least_talk(KINDS, [two, []]), [])

    def test_new_list(self):
        one, two = [("new", "a")], [("new", "b")]
        talks = [two, one]
        found = least_talk(KINDS, talks)
        self.assertIsNot(found, one)
        found.append("changed")
        self.assertEqual(talks, [[("new", "b")], [("new", "a")]])


if __name__ == "__main__":
    unittest.main()
