import inspect
import unittest

from talkalike import errors
from talkalike.errors import BadPattern, TalkError

KINDS = """
    BadPattern TooManyPatterns TooManyStates TooManyClasses BadKinds BadRequest BadLine NotAnObject BadPairs BadGoal
    BadCondition UnknownName UnknownStation UnknownRequest BadRule BadSource BadCount BadName DuplicateName
    OtherRequests NotGiven TooManyKinds BadPair NoSuchChange TooManyChanges BadCarry
""".split()


class Errors(unittest.TestCase):

    def test_base_class(self):
        self.assertEqual(TalkError.__bases__, (ValueError,))
        error = TalkError("Odd")
        self.assertEqual((error.word, error.place), ("Odd", None))
        error = TalkError("Odd", 3)
        self.assertEqual((error.word, error.place), ("Odd", 3))
        error = TalkError(word="Odd", place=(1, 2))
        self.assertEqual((error.word, error.place), ("Odd", (1, 2)))

    def test_all_classes_are_there(self):
        found = {name for name, _ in inspect.getmembers(errors, inspect.isclass)}
        self.assertEqual(found, set(KINDS) | {"TalkError"})

    def test_each_class(self):
        for name in KINDS:
            kind = getattr(errors, name)
            self.assertEqual(kind.__bases__, (TalkError,))
            self.assertEqual(kind.__name__, name)
            for error, place in (
                (kind(), None), (kind(None), None), (kind(0), 0), (kind(False), False), (kind("self"), "self"),
                (kind(place=(1, 2)), (1, 2)), (kind(("not",)), ("not",)),
            ):
                self.assertIsInstance(error, ValueError)
                self.assertEqual(error.word, name)
                self.assertEqual(error.place, place)
                self.assertIs(type(error.place), type(place))

    def test_signatures(self):
        self.assertEqual(str(inspect.signature(TalkError)), "(word, place=None)")
        for name in KINDS:
            self.assertEqual(str(inspect.signature(getattr(errors, name))), "(place=None)")

    def test_errors_are_caught_as_value_errors(self):
        with self.assertRaises(ValueError):
            raise BadPattern("A")
        with self.assertRaises(TalkError):
            raise BadPattern("A")

    def test_any_place_can_be_shown(self):
        # Python refuses to write integers of this size in digits.
        self.assertIsInstance(str(BadPattern(10 ** 6000)), str)


if __name__ == "__main__":
    unittest.main()
