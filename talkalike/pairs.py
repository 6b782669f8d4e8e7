"""Pairs of objects that are talked to alike, their kinds, their examples and their order."""

from talkalike.classes import class_of, first_table
from talkalike.errors import BadPair
from talkalike.services import MOST_REGISTERS
from talkalike.steps import is_own, with_own_anew
from talkalike.values import is_id, is_value, value_key


def check_pair(first, second, pair, place):
    """Raise BadPair with this place unless pair is a pair of an object of first and an object of second."""
    if not isinstance(pair, tuple) or len(pair) != 2:
        raise BadPair(place)
    if not is_object(first, pair[0]) or not is_object(second, pair[1]):
        raise BadPair(place)


def is_object(service, item):
    """Return True if the value is an object of the service."""
    if not isinstance(item, tuple) or len(item) != 2:
        return False
    station, held = item
    if station not in service.stations or not isinstance(held, list):
        return False
    return len(held) == len(service.registers) and all([can_be_held(value) for value in held])


def can_be_held(value):
    """Return True if a register can hold the value."""
    if isinstance(value, tuple):
        return len(value) == 2 and value[0] == "own" and is_id(value[1]) and value[1] >= 0
    return value is None or is_value(value)


def kind_of(patterns, pair):
    """Return the kind of the pair, a tuple."""
    return kind_with(classes_held(patterns, pair), pair)


def kind_with(classes, pair):
    """Return the kind of the pair; classes is a dict that has the class of each text that the pair holds."""
    (one, held), (other, behind) = pair
    together = held + behind
    return (one, other, *[part_of_kind(classes, value, held, together) for value in held],
            *[part_of_kind(classes, value, behind, together) for value in behind])


def part_of_kind(classes, value, held, together):
    """Return what a kind says of a register that holds the value.

    held is what the registers of its object hold, together what those of both objects hold. The
    first register that holds the same says with which other ones it is shared.
    """
    if isinstance(value, str):
        return (classes[value], together.index(value))
    if is_own(value):
        return ("own", held.index(value))
    if value is None or value == 0:
        return value
    return ("known", together.index(value))


def alike(patterns, one, other):
    """Return True if the two pairs are of one kind, otherwise False."""
    return kind_of(patterns, one) == kind_of(patterns, other)


def example_of(patterns, pair):
    """Return the example of the pair's kind."""
    return example_with(first_table(patterns, 2 * MOST_REGISTERS), classes_held(patterns, pair), pair)


def example_with(table, classes, pair):
    """Return the example of the pair's kind.

    table is a dict from classes to their first texts, classes one from the texts that the pair
    holds to their classes.
    """
    (one, held), (other, behind) = pair
    others = replacements(table, classes, held + behind)
    return ((one, [others.get(value, value) for value in with_own_anew(held)]),
            (other, [others.get(value, value) for value in with_own_anew(behind)]))


def replacements(table, classes, values):
    """Return a dict from texts and known ids among the values to what replaces them in an example."""
    others = {0: 0}
    counts = {}
    known = 0
    for value in values:
        if isinstance(value, str) and value not in others:
            wanted = classes[value]
            count = counts.get(wanted, 0)
            others[value] = table[wanted][count]
            counts[wanted] = count + 1
        elif is_id(value) and value not in others:
            known += 1
            others[value] = known
    return others


def pair_key(first, second, pair):
    """Return a tuple; the tuples of two pairs of these services have the order of the pairs."""
    (one, held), (other, behind) = pair
    return (first.stations.index(one), second.stations.index(other), *[held_key(value) for value in held + behind])


def held_key(value):
    """Return a tuple; the tuples of what two registers hold have the order of point 6.4."""
    if value is None:
        return (0,)
    if is_own(value):
        return (2, value[1])
    return (1, *value_key(value))


def known_after(pair):
    """Return the least integer from 1 on that is greater than all known ids that the pair holds."""
    return max([0] + [value for value in values_held(pair) if is_id(value)]) + 1


def classes_held(patterns, pair):
    """Return a dict from each text that the pair holds to its class."""
    return {value: class_of(patterns, value) for value in values_held(pair) if isinstance(value, str)}


def values_held(pair):
    """Return the list of the texts and the known ids that the pair holds, duplicates included."""
    return [value for _, held in pair for value in held if value is not None and not is_own(value)]
