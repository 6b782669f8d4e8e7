"""Rules: how they are checked, and their patterns."""

from talkalike.conditions import check_condition, check_known, names_in, patterns_in
from talkalike.errors import BadName, BadRule, BadSource, UnknownRequest, UnknownStation
from talkalike.talks import is_name, kind_number
from talkalike.texts import is_text
from talkalike.values import is_id

PARTS_OF_A_RULE = 6
MOST_SOURCES = 4
MOST_TOLD_LETTERS = 8
MOST_FRESH = 2
KEEP = ("keep",)
CLEAR = ("clear",)


def value_names(requests, name):
    """Return the list of the value names of the kind with this name."""
    number = kind_number(requests, name)
    if number is None:
        raise UnknownRequest(name)
    return list(requests[number][1:])


def check_rule(rule, stations, registers, requests):
    """Raise the first error of a rule for these stations, registers and kinds of requests."""
    if len(rule) != PARTS_OF_A_RULE:
        raise BadRule()
    station, name, condition, answer, turn, behind = rule
    if station is not None:
        check_station(station, stations)
    names = [*registers, *value_names(requests, name), "self"]
    if name == "new" and station is not None:
        raise BadRule(0)
    check_condition(condition, names, registers)
    check_answer(answer, names)
    check_turn(turn, registers, names)
    check_station(behind, stations)


def check_station(station, stations):
    """Raise UnknownStation if the station is not in the list."""
    if station not in stations:
        raise UnknownStation(station)


def check_answer(answer, names):
    """Raise the first error of the answer of a rule with these names."""
    if not 1 <= len(answer) <= 1 + MOST_SOURCES:
        raise BadRule(3)
    if not is_name(answer[0]):
        raise BadName(answer[0])
    for source in answer[1:]:
        check_source(source, names)


def check_turn(turn, registers, names):
    """Raise the first error of the turn of a rule with these names."""
    if len(turn) != len(registers):
        raise BadRule(4)
    for line in turn:
        if line not in (KEEP, CLEAR):
            check_source(line, names)


def check_source(source, names):
    """Raise the first error of a source in a rule with these names."""
    if len(source) != 2 or source[0] not in ("value", "text", "fresh"):
        raise BadSource(source)
    word, what = source
    if word == "value":
        check_known(what, names)
    elif word == "text" and not is_told_text(what):
        raise BadSource(source)
    elif word == "fresh" and not is_fresh_number(what):
        raise BadSource(source)


def is_told_text(value):
    """Return True if a rule can tell the value as a text."""
    return is_text(value) and len(value) <= MOST_TOLD_LETTERS


def is_fresh_number(value):
    """Return True if the value can stand behind the word "fresh"."""
    return is_id(value) and 0 <= value <= MOST_FRESH


def patterns_of_rule(rule):
    """Return the list of the patterns of a rule, duplicates included."""
    condition, answer, turn = rule[2:5]
    return patterns_in(condition) + texts_told(answer[1:]) + texts_told(turn)


def texts_told(lines):
    """Return the list of the texts of sources or of lines of a turn, in order."""
    return [line[1] for line in lines if line[0] == "text"]


def names_of_rule(rule):
    """Return the list of the names that a rule names, duplicates included."""
    condition, answer, turn = rule[2:5]
    return names_in(condition) + [line[1] for line in [*answer[1:], *turn] if line[0] == "value"]
