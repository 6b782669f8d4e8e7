"""Objects, the rules that they take, and the steps that they do."""

from talkalike.conditions import holds
from talkalike.lists import without_repeats


def new_object(service):
    """Return the object at the first station whose registers hold nothing."""
    return (service.stations[0], [None] * len(service.registers))


def rule_for(service, item, number, name, values):
    """Return the index of the rule that the object takes, or None if none fits."""
    return fitting(service, item[0], name, meaning_of(service, item, number, name, values))


def step(service, item, number, name, values, given):
    """Return None if no rule fits, otherwise (object behind the step, answer, count of given ids behind it)."""
    meaning = meaning_of(service, item, number, name, values)
    index = fitting(service, item[0], name, meaning)
    if index is None:
        return None
    answer, turn, station = service.rule_at(index)[3:]
    fresh = least_fresh(item[1])
    told = [source_gives(source, meaning, fresh) for source in answer[1:]]
    held = [line_gives(line, old, meaning, fresh) for line, old in zip(turn, item[1])]
    known = {own: given + at for at, own in enumerate(own_ids(told))}
    behind = (station, [known.get(value, value) for value in held])
    return (behind, (answer[0], *[known.get(value, value) for value in told]), given + len(known))


def opened(service, values, given):
    """Return what step does for a request of the kind "new" with these values."""
    found = step(service, new_object(service), given, "new", values, given + 1)
    if found is None:
        return None
    item, answer, count = found
    return (item, (answer[0], given, *answer[1:]), count)


def meaning_of(service, item, number, name, values):
    """Return what the names in the rules for this kind of requests stand for, as a dict."""
    return dict(zip(service.names_for(name), [*item[1], *values, number]))


def fitting(service, station, name, meaning):
    """Return the index of the first rule that fits an object at the station, or None."""
    for index in service.indexes_for(station, name):
        if holds(service.rule_at(index)[2], meaning):
            return index
    return None


def source_gives(source, meaning, fresh):
    """Return what a source gives; fresh is the number that the first new own id gets."""
    word, what = source
    if word == "value":
        return meaning[what]
    if word == "text":
        return what
    return ("own", fresh + what)


def line_gives(line, old, meaning, fresh):
    """Return what a register with this line of a turn holds, if it held old before."""
    if line == ("keep",):
        return old
    if line == ("clear",):
        return None
    return source_gives(line, meaning, fresh)


def is_own(value):
    """Return True if what a register holds or a source gives is an own id."""
    return isinstance(value, tuple)


def own_ids(values):
    """Return the list of the different own ids among the values, in the order in which they first stand there."""
    return without_repeats([value for value in values if is_own(value)])


def least_fresh(held):
    """Return the least number that is greater than those of all own ids that the registers hold."""
    return max([value[1] for value in held if is_own(value)], default=-1) + 1


def with_own_anew(held):
    """Return a new list of what the registers hold, with the own ids numbered from 0 in order."""
    anew = {own: ("own", at) for at, own in enumerate(own_ids(held))}
    return [anew.get(value, value) for value in held]
