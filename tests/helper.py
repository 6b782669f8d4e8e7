"""What several tests share: slow but plain ways to find what the program must return."""

import copy
import itertools
import random
import re
import string
import unittest

from talkalike.services import Service

NO_STRINGS = [0, 1, -1, 7, None, True, False, [], ["a"], (), ("a",), ("a", "b")]

# Exactly 400 states: 16 * 23 + 1 for the four open patterns, and 31 beginnings of the plain ones.
OPEN = ["*abcdef*", "*ghijkl*", "*mnopqr*", "*stuvwx*"]
STATES_400 = OPEN + ["yyyyyyyy", "zzzzzzzz", "yzyyyyyy", "zyzzzzzz", "yyz"]
STATES_401 = STATES_400 + ["zzy"]

ALWAYS, NEVER = ("always",), ("never",)
KEEP, CLEAR = ("keep",), ("clear",)


def receipts(claim=("same", "key", "token")):
    """The service at the beginning of the document; its last rule has this condition."""
    opening = (None, "new", ALWAYS, ("ok",), (CLEAR,), "open")
    closing = ("open", "close", ALWAYS, ("receipt", ("fresh", 0)), (("fresh", 0),), "closed")
    claiming = ("closed", "claim", claim, ("claimed",), (CLEAR,), "closed")
    return Service(["open", "closed"], ["token"], [("new",), ("close",), ("claim", "key")], [opening, closing, claiming])


def locks():
    """The service of the document's example for run_talk."""
    make = (None, "new", ALWAYS, ("made", ("value", "name")), (("fresh", 0),), "open")
    show = ("open", "show", ALWAYS, ("lock", ("value", "lock"), ("fresh", 1)), (KEEP,), "open")
    take = ("open", "take", ("same", "key", "lock"), ("taken",), (CLEAR,), "open")
    return Service(["open"], ["lock"], [("new", "name"), ("show",), ("take", "key")], [make, show, take])


def texts_up_to(length, letters=string.ascii_lowercase):
    """All texts over these letters up to this length, in the order of texts."""
    for size in range(length + 1):
        for row in itertools.product(letters, repeat=size):
            yield "".join(row)


def fits(pattern, text):
    """Whether the pattern matches the text, asked of Python's regular expressions."""
    return re.fullmatch(pattern.replace("?", "[a-z]").replace("*", "[a-z]*"), text) is not None


def class_by_hand(patterns, text):
    return tuple(fits(pattern, text) for pattern in patterns)


def holds_by_hand(condition, meaning):
    word, rest = condition[0], condition[1:]
    if word in ("and", "or"):
        found = [holds_by_hand(part, meaning) for part in rest]
        return all(found) if word == "and" else any(found)
    if word == "not":
        return not holds_by_hand(rest[0], meaning)
    if word == "matches":
        return type(meaning[rest[0]]) is str and fits(rest[1], meaning[rest[0]])
    if word == "same":
        first, second = meaning[rest[0]], meaning[rest[1]]
        return first is not None and type(first) is type(second) and first == second
    return meaning[rest[0]] is None if word == "empty" else word == "always"


class Unshown:
    """An own id: it equals itself alone, and gets a number when an answer shows it."""


class HandHouse:
    """A house that follows the points 4.1 to 4.8 one by one, with an object of Python for each own id."""

    def __init__(self, service):
        self.stations, self.registers = service.stations, service.registers
        self.kinds, self.rules = service.requests, service.rules
        self.objects = {}
        self.given = 0

    def meaning(self, item, number, name, values):
        meaning = dict(zip(self.registers, item[1]))
        for kind in self.kinds:
            if kind[0] == name:
                meaning.update(zip(kind[1:], values))
        return {**meaning, "self": number}

    def rule(self, item, number, name, values):
        """The index of the rule that the object takes."""
        meaning = self.meaning(item, number, name, values)
        for index, (station, asked, condition, _, _, _) in enumerate(self.rules):
            if station in (None, item[0]) and asked == name and holds_by_hand(condition, meaning):
                return index
        return None

    def ask(self, request):
        if request[0] == "new":
            item, number, name, values = (self.stations[0], [None] * len(self.registers)), self.given, "new", request[1:]
        else:
            if request[0] not in self.objects:
                return None
            item, number, name, values = self.objects[request[0]], request[0], request[1], request[2:]
        index = self.rule(item, number, name, values)
        if index is None:
            return None
        made = {}

        def gives(source):
            if source[0] == "fresh":
                return made.setdefault(source[1], Unshown())
            return self.meaning(item, number, name, values)[source[1]] if source[0] == "value" else source[1]

        answer, turn, behind = self.rules[index][3:]
        told = [gives(source) for source in answer[1:]]
        held = []
        for line, old in zip(turn, item[1]):
            held.append(old if line == KEEP else None if line == CLEAR else gives(line))
        if name == "new":
            self.given += 1
            told.insert(0, number)
        for value in list(told):
            if isinstance(value, Unshown) and value in told:
                told = [self.given if one is value else one for one in told]
                held = [self.given if one is value else one for one in held]
                self.given += 1
        self.objects[number] = (behind, held)
        return (answer[0],) + tuple(told)

    def object_of(self, number):
        """The object with its own ids numbered from 0."""
        if number not in self.objects:
            return None
        station, held = self.objects[number]
        own = []
        for value in held:
            if isinstance(value, Unshown) and value not in own:
                own.append(value)
        return station, [("own", own.index(value)) if isinstance(value, Unshown) else value for value in held]


def run_by_hand(service, talk):
    house = HandHouse(service)
    return [house.ask(request) for request in talk]


def requests_by_hand(kinds, texts, given):
    """All requests with these texts, two made-up ids and the ids that were given, in the order of requests."""
    values = sorted(texts, key=lambda text: (len(text), text)) + [-1, -2] + list(range(given))
    for kind in kinds:
        for number in [None] if kind[0] == "new" else [-1] + list(range(given)):
            for row in itertools.product(values, repeat=len(kind) - 1):
                yield (("new",) if number is None else (number, kind[0])) + row


def houses_by_hand(first, second, talk, moment=0, change=None):
    """A house of each service behind the talk; the second one is made from one of the first behind moment requests."""
    house, other = HandHouse(first), HandHouse(first if moment else second)
    for index, request in enumerate(talk):
        if moment and index == moment:
            other = change(other)
        house.ask(request)
        other.ask(request)
    return house, change(other) if moment and moment == len(talk) else other


def first_by_hand(first, second, texts, most, ends, moment=0, change=None):
    """The first talk, of at most most requests, whose last one ends, with both answers to it.

    Only these texts are used. ends is asked for a request, the count of ids given before it, and the two
    answers; all requests before the last one have the same answers. Talks with a request that both refuse
    are left out, since they are as good without it. For moment and change see houses_by_hand: the last
    request comes behind the change.
    """
    talks = [[]]
    for length in range(1, most + 1):
        longer = []
        for talk in talks:
            given = houses_by_hand(first, second, talk, moment, change)[0].given
            for request in requests_by_hand(first.requests, texts, given):
                house, other = houses_by_hand(first, second, talk, moment, change)
                answers = house.ask(request), other.ask(request)
                if length > moment and ends(request, given, *answers):
                    return talk + [request], answers[0], answers[1]
                if answers[0] == answers[1] is not None:
                    longer.append(talk + [request])
        talks = longer
    return None


def texts_of_talk(talk):
    """The texts among the values of the requests."""
    return {value for request in talk for value in request[1 if request[0] == "new" else 2:] if isinstance(value, str)}


def thousand(more=False):
    """A service with three registers that hold nothing or one of nine texts: 1000 kinds, with more 1001.

    Whatever is held, the request "ask" is answered at once.
    """
    kinds = [("new",), ("ask",), ("one", "key"), ("two", "key"), ("three", "key"), ("end",)]
    told = ("or",) + tuple(("matches", "key", letter) for letter in "abcdefghi")
    rules = [(None, "new", ALWAYS, ("ok",), (CLEAR,) * 3, "on"), ("on", "ask", ALWAYS, ("yes",), (KEEP,) * 3, "on")]
    for index, name in enumerate(["one", "two", "three"]):
        turn = tuple(("value", "key") if index == at else KEEP for at in range(3))
        rules.append(("on", name, told, ("ok",), turn, "on"))
    end = ("on", "end", ALWAYS, ("ok",), (CLEAR,) * 3, "off" if more else "on")
    return Service(["on", "off"], ["left", "mid", "right"], kinds, rules + [end])


def with_rule(service, index, **parts):
    """The service with other parts of one rule."""
    names = ["station", "request", "condition", "answer", "turn", "next"]
    rules = service.rules
    rules[index] = tuple(parts.get(name, old) for name, old in zip(names, rules[index]))
    return Service(service.stations, service.registers, service.requests, rules)


class Dice:
    """Rolls services and talks, the same ones for the same seed."""

    def __init__(self, seed):
        self.dice = random.Random(seed)

    def condition(self, names, registers, depth=3):
        kinds = ["always", "always", "matches", "same", "same", "never"] + ["empty"] * (registers != [])
        kinds += ["and", "or", "not"] * (depth > 1)
        word = self.dice.choice(kinds)
        if word in ("and", "or"):
            return (word,) + tuple(self.condition(names, registers, depth - 1) for _ in range(self.dice.choice([0, 1, 2, 2])))
        if word == "not":
            return (word, self.condition(names, registers, depth - 1))
        if word == "matches":
            return (word, self.dice.choice(names), self.dice.choice(["", "a", "?", "*", "b*"]))
        if word == "same":
            return (word, self.dice.choice(names), self.dice.choice(names))
        return (word, self.dice.choice(registers)) if word == "empty" else (word,)

    def source(self, names):
        word = self.dice.choice(["value", "value", "text", "fresh", "fresh"])
        what = {"value": names, "text": ["", "a", "bb"], "fresh": [0, 0, 1, 2]}[word]
        return (word, self.dice.choice(what))

    def rule(self, stations, registers, kind):
        names = registers + list(kind[1:]) + ["self"]
        station = None if kind[0] == "new" else self.dice.choice(stations + [None])
        answer = (self.dice.choice(["ok", "no"]),)
        answer += tuple(self.source(names) for _ in range(self.dice.choice([0, 0, 1, 1, 2, 3, 4])))
        turn = tuple(self.dice.choice([KEEP, KEEP, CLEAR, self.source(names), self.source(names)]) for _ in registers)
        return station, kind[0], self.condition(names, registers), answer, turn, self.dice.choice(stations)

    def service(self):
        stations = ["open", "closed", "lost"][:self.dice.choice([1, 2, 2, 3])]
        registers = ["owner", "token", "note"][:self.dice.choice([0, 1, 1, 2, 2, 3])]
        kinds = [self.dice.choice([("new",), ("new", "name"), ("new", "name", "key")])]
        kinds += [("put", "key"), ("swap", "key", "name"), ("get",)][:self.dice.choice([1, 2, 3, 3])]
        # Most services open an object for every request.
        opening = self.rule(stations, registers, kinds[0])
        rules = [opening[:2] + (self.dice.choice([ALWAYS, ALWAYS, ALWAYS, opening[2]]),) + opening[3:]]
        for _ in range(self.dice.randint(0, 7)):
            rules.append(self.rule(stations, registers, self.dice.choice(kinds)))
        return Service(stations, registers, kinds, rules)

    def small(self, most_registers=2):
        """A service with few values, so that its small talks can be tried, whose objects change at most requests."""
        stations = ["open", "closed"]
        registers = ["owner", "token"][:self.dice.randint(1, most_registers)]
        kinds = [self.dice.choice([("new",), ("new",), ("new", "name")]), ("put", "key"), ("get",)]
        opening = self.rule(stations, registers, kinds[0])
        rules = [opening[:2] + (ALWAYS,) + opening[3:]]
        for kind in kinds[1:]:
            for station in stations:
                for _ in range(self.dice.choice([0, 1, 1, 2, 2, 3])):
                    _, name, condition, _, turn, behind = self.rule(stations, registers, kind)
                    names = registers + list(kind[1:]) + ["self"]
                    answer = (self.dice.choice(["ok", "no"]),)
                    answer += tuple(self.source(names) for _ in range(self.dice.choice([0, 0, 0, 1, 2])))
                    condition = self.dice.choice([condition, condition, ALWAYS])
                    rules.append((station, name, condition, answer, turn, behind))
        return Service(stations, registers, kinds, rules)

    def other(self, service):
        """A service with one other turn, condition or answer."""
        rules = service.rules
        at, part = self.dice.randrange(len(rules)), self.dice.choice([2, 3, 4, 4])
        kind = [kind for kind in service.requests if kind[0] == rules[at][1]][0]
        new = self.rule(service.stations, service.registers, kind)
        rules[at] = rules[at][:part] + (new[part],) + rules[at][part + 1:]
        return Service(service.stations, service.registers, service.requests, rules)

    def talk(self, service, length):
        """A talk in which all ids were given."""
        house = HandHouse(service)
        talk = []
        for _ in range(length):
            kind = self.dice.choice(service.requests[:1] + service.requests)
            choices = ["", "a", "b", "bb", -1, -2] + list(range(house.given)) * 2
            values = tuple(self.dice.choice(choices) for _ in kind[1:])
            if kind[0] == "new":
                talk.append(("new",) + values)
            else:
                number = self.dice.choice((list(house.objects) * 4 + list(range(house.given))) or [-1])
                talk.append((number, kind[0]) + values)
            house.ask(talk[-1])
        return talk


class TestCase(unittest.TestCase):

    def assert_fails(self, kind, place, function, *arguments):
        """The call raises exactly this error with exactly this place, and changes no argument."""
        before = copy.deepcopy([one for one in arguments if isinstance(one, (list, tuple, dict))])
        with self.assertRaises(kind) as caught:
            function(*arguments)
        self.assertIs(type(caught.exception), kind)
        self.assertEqual(caught.exception.word, kind.__name__)
        self.assertEqual(caught.exception.place, place)
        self.assertIs(type(caught.exception.place), type(place))
        self.assertEqual([one for one in arguments if isinstance(one, (list, tuple, dict))], before)

    def assert_same(self, found, expected):
        """Both are equal, and built of the same kinds of values throughout."""
        self.assertEqual(found, expected)
        self.assertEqual(shape(found), shape(expected))


def shape(value):
    """The kinds of values in a value, so that a list is told from a tuple and 1 from True."""
    if isinstance(value, (list, tuple)):
        return [type(value)] + [shape(one) for one in value]
    return type(value)
