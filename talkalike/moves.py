"""What two services do with one request, and the requests that matter for a pair."""

from talkalike.classes import first_rows
from talkalike.pairs import values_held
from talkalike.steps import opened, step
from talkalike.talks import name_of, values_of
from talkalike.values import value_key

# Two objects hold at most six texts, and two may stand ahead in a request: so one of these is free.
MOST_FIRST_TEXTS = 9


def openings(first, second, patterns):
    """Return the list of the openings that matter for the two services, in the order of requests."""
    return requests_of_kind(first_rows(patterns, MOST_FIRST_TEXTS), first.requests[0], None)


def requests_to(first, second, patterns, pair):
    """Return the list of the requests that matter for the pair, in the order of requests."""
    rows = first_rows(patterns, MOST_FIRST_TEXTS)
    found = []
    for kind in first.requests[1:]:
        found.extend(requests_of_kind(rows, kind, pair))
    return found


def requests_of_kind(rows, kind, pair, unnamed=()):
    """Return, in order, the list of the requests of this kind that matter for the pair, None if they open it.

    rows has the first texts of each class. A value that is unnamed gets the first of all texts
    alone: that text always matters.
    """
    head, known = (("new",), []) if pair is None else ((0, kind[0]), [0] + values_held(pair))
    return [(*head, *values) for values in values_that_matter(rows, known, kind[1:], unnamed)]


def values_that_matter(rows, known, names, unnamed=()):
    """Return the list of the tuples of values that matter for these names, in order; known always matter."""
    found = [()]
    for name in names:
        if name in unnamed:
            found = [(*ahead, "") for ahead in found]
        else:
            found = [(*ahead, value) for ahead in found for value in values_behind(rows, [*known, *ahead])]
    return found


def values_behind(rows, taken):
    """Return, in order, those of the values taken, the first other text of each class, and the greatest free id."""
    found = {value: True for value in taken}
    for row in rows:
        free = [text for text in row if text not in taken]
        if free:
            found[free[0]] = True
    found[greatest_free(taken)] = True
    return sorted(found, key=value_key)


def greatest_free(taken):
    """Return the greatest id below 0 that is not among the values."""
    number = -1
    while number in taken:
        number -= 1
    return number


def move(first, second, pair, request, given):
    """Return the outcome of the request; pair is None for a request of the kind "new"."""
    values = list(values_of(request))
    if pair is None:
        found = [opened(service, values, given) for service in (first, second)]
    else:
        name = name_of(request)
        found = [step(service, item, 0, name, values, given) for service, item in zip((first, second), pair)]
    return outcome_of(found[0], found[1])


def outcome_of(one, other):
    """Return the outcome of a request from what the step of each of the two services returns."""
    if one is None and other is None:
        return ("refused",)
    answers = [None if found is None else found[1] for found in (one, other)]
    if answers[0] != answers[1]:
        return ("part", answers[0], answers[1])
    return ("go", (one[0], other[0]), one[2], answers[0])
