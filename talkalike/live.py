"""Changing a house to another service while clients talk to it."""

from talkalike.compared import Compared
from talkalike.difference import told
from talkalike.errors import BadCarry
from talkalike.reach import Search, parts
from talkalike.rules import is_told_text
from talkalike.services import patterns_of


def check_carry(first, second, carry):
    """Raise BadCarry unless the tuple of two lists is a carry from first to second."""
    stations, lines = carry
    if len(stations) != len(first.stations) or not all([station in second.stations for station in stations]):
        raise BadCarry()
    if len(lines) != len(second.registers) or not all([is_line(line, first.registers) for line in lines]):
        raise BadCarry()


def is_line(line, registers):
    """Return True if the tuple is a line of a carry from a service with these registers."""
    if line in (("self",), ("empty",)):
        return True
    if len(line) != 2:
        return False
    return (line[0] == "held" and line[1] in registers) or (line[0] == "text" and is_told_text(line[1]))


def carried(first, carry, item, number):
    """Return the object that the carry makes from the object of first that has the id number."""
    stations, lines = carry
    station, held = item
    values = dict(zip(first.registers, held))
    return (stations[first.stations.index(station)], [line_carries(line, values, number) for line in lines])


def line_carries(line, values, number):
    """Return what a line of a carry gives for an object that has this id and, in its registers, these values."""
    word = line[0]
    if word == "held":
        return values[line[1]]
    if word == "text":
        return line[1]
    return number if word == "self" else None


def live(first, second, carry):
    """Return (moment, talk, answer of the house that was not changed, answer of the changed one), or None."""
    check_carry(first, second, carry)
    texts = [line[1] for line in carry[1] if line[0] == "text"]
    compared = Compared(first, second, texts)
    # Either all requests that are needed come behind the change, or the object was opened before it.
    behind = Search(compared, parts)
    behind.run()
    across = Search(compared, parts)
    across.run_from(starts_of(first, carry, [*patterns_of([second]), *texts]))
    found = behind.found()
    other = across.found()
    if found is None or (other is not None and len(other[0]) < len(found[0])):
        found = other
    return None if found is None else (found[2], *told(found))


def starts_of(first, carry, extra):
    """Return, for each number of requests, the list of the turns in which an object of first is changed.

    Each object of first is there, up to kinds, behind the first talk that leads to it.
    """
    search = Search(Compared(first, first, extra), parts)
    search.run()
    starts = [[]]
    for talk, pair, given, _ in search.turns():
        # No length is left out: a talk leads to a kind first only if its beginning does.
        if len(talk) == len(starts):
            starts.append([])
        starts[-1].append((talk, (pair[0], carried(first, carry, pair[0], 0)), given, len(talk)))
    return starts
