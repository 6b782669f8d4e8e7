"""Exchanging values of a talk that no service tells apart."""

from talkalike.classes import class_of
from talkalike.errors import BadPairs
from talkalike.services import patterns_of
from talkalike.talks import check_talk, replaced
from talkalike.values import is_id


def exchange(service, talk, pairs):
    """Return the talk in which the two values of each pair are exchanged."""
    check_talk(service.requests, talk)
    check_pairs(patterns_of([service]), pairs)
    others = others_of(pairs)
    return [replaced(request, others) for request in talk]


def exchanged_answer(answer, pairs):
    """Return the answer in which the two values of each pair are exchanged behind the word."""
    if answer is None:
        return None
    others = others_of(pairs)
    return (answer[0], *[others.get(value, value) for value in answer[1:]])


def check_pairs(patterns, pairs):
    """Raise BadPairs for the first pair that cannot be exchanged, or that shares a value with an earlier one."""
    earlier = []
    for index, (one, other) in enumerate(pairs):
        if not is_exchangeable(patterns, one, other) or one in earlier or other in earlier:
            raise BadPairs(index)
        earlier.extend([one, other])


def is_exchangeable(patterns, one, other):
    """Return True if the two values are different texts of one class, or different ids below 0."""
    if one == other or is_id(one) != is_id(other):
        return False
    if is_id(one):
        return one < 0 and other < 0
    return class_of(patterns, one) == class_of(patterns, other)


def others_of(pairs):
    """Return a dict from each value of a pair to the other one."""
    others = {}
    for one, other in pairs:
        others[one] = other
        others[other] = one
    return others
