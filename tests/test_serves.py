import unittest

from helper import ALWAYS, CLEAR, KEEP, Dice, TestCase, first_by_hand, locks, receipts, run_by_hand, texts_of_talk, thousand, with_rule
from talkalike.difference import difference
from talkalike.errors import TooManyKinds
from talkalike.serves import serves
from talkalike.services import Service

KINDS = [("new",), ("put", "key"), ("get",)]
OPENING = (None, "new", ALWAYS, ("ok",), (CLEAR,), "on")
PUTTING = ("on", "put", ALWAYS, ("ok",), (("value", "key"),), "on")
GETTING = ("on", "get", ALWAYS, ("got", ("value", "item")), (KEEP,), "on")


def service_of(*rules):
    return Service(["on", "off"], ["item"], KINDS, list(rules))


class Serves(TestCase):

    def parts(self, first, second, talk, *answers):
        self.assert_same(serves(first, second), (talk, *answers))
        self.assertEqual([run_by_hand(service, talk)[-1] for service in (first, second)], list(answers))
        self.assertNotIn(None, run_by_hand(first, talk))

    def test_example_of_the_document(self):
        self.assertIsNone(serves(receipts(), receipts(ALWAYS)))
        self.parts(receipts(ALWAYS), receipts(), [("new",), (0, "close"), (0, "claim", "")], ("claimed",), None)

    def test_equal_services(self):
        for service in (receipts(), locks(), service_of(), service_of(OPENING)):
            self.assertIsNone(serves(service, service))

    def test_the_first_one_refuses(self):
        self.assertIsNone(serves(service_of(), service_of(OPENING)))
        self.assertIsNone(serves(service_of(OPENING), service_of(OPENING, PUTTING, GETTING)))
        self.assertIsNone(serves(service_of(OPENING, GETTING), service_of(OPENING, PUTTING, GETTING)))

    def test_the_second_one_refuses(self):
        self.parts(service_of(OPENING), service_of(), [("new",)], ("ok", 0), None)
        self.parts(service_of(OPENING, PUTTING, GETTING), service_of(OPENING), [("new",), (0, "put", "")], ("ok",), None)
        self.parts(service_of(OPENING, PUTTING, GETTING), service_of(OPENING, PUTTING), [("new",), (0, "get")], ("got", None), None)

    def test_another_answer(self):
        first = service_of(OPENING, PUTTING, GETTING)
        self.parts(first, with_rule(first, 0, answer=("no",)), [("new",)], ("ok", 0), ("no", 0))
        # The second one answers more, but something else where the first one answers too.
        limited = with_rule(first, 1, condition=("matches", "key", "b"))
        second = with_rule(first, 2, answer=("got", ("text", "a")))
        self.assertEqual(difference(limited, second)[0], [("new",), (0, "put", "")])
        self.parts(limited, second, [("new",), (0, "get")], ("got", None), ("got", "a"))

    def test_later_than_the_difference(self):
        """Talks in which the first one refuses a request do not count, even if a later answer is another one."""
        ask = ("on", "put", ("same", "key", "self"), ("ok",), (("text", "a"),), "off")
        told = ("off", "get", ALWAYS, ("got",), (KEEP,), "off")
        first = service_of(OPENING, ask, told)
        second = service_of(OPENING, ask[:2] + (ALWAYS,) + ask[3:], told[:3] + (("other",),) + told[4:])
        self.assertEqual(difference(first, second), ([("new",), (0, "put", "")], None, ("ok",)))
        self.parts(first, second, [("new",), (0, "put", 0), (0, "get")], ("got",), ("other",))
        # Behind the refusal the second one alone has gone on: no talk shows it without a refusal.
        self.assertIsNone(serves(service_of(OPENING, told), second))

    def test_too_many_kinds(self):
        service = thousand(True)
        self.assert_fails(TooManyKinds, None, serves, service, service)
        self.assert_fails(TooManyKinds, None, serves, service, with_rule(service, 1, answer=("no",)))
        self.parts(thousand(), with_rule(thousand(), 1, answer=("no",)), [("new",), (0, "ask")], ("yes",), ("no",))

    def test_against_all_small_talks(self):
        counts = {}
        for seed in range(120):
            dice = Dice(seed)
            first = dice.small(1 + seed % 2)
            second = dice.other(first)
            found = serves(first, second)
            most = min(3, len(found[0])) if found else 2
            texts = {"", "a", "b"} | texts_of_talk(found[0] if found else [])
            expected = first_by_hand(first, second, texts, most,
                                     lambda request, given, answer, other: answer is not None and answer != other)
            if found is None or len(found[0]) > most:
                self.assertIsNone(expected)
            else:
                self.assertEqual(found, expected)
            key = "same" if found == difference(first, second) else "other"
            counts[found and len(found[0]), key] = counts.get((found and len(found[0]), key), 0) + 1
        # Among them services that differ, but not in this way.
        self.assertGreater(min(counts[None, "same"], counts[None, "other"], counts[2, "same"]), 1)
        self.assertIn((3, "same"), counts)


if __name__ == "__main__":
    unittest.main()
