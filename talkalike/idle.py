"""Rules that can be left out of a service, and registers that it can forget."""

from talkalike.difference import difference
from talkalike.errors import UnknownName
from talkalike.rules import CLEAR, check_station
from talkalike.services import with_rules


def idle_rules(service):
    """Return the list of the indexes of the idle rules, in ascending order."""
    return [index for index in range(len(service.rules)) if difference(service, without_rule(service, index)) is None]


def without_rule(service, index):
    """Return the service without the rule that has this index."""
    rules = service.rules
    return with_rules(service, rules[:index] + rules[index + 1:])


def core(service):
    """Return what is left if the first idle rule is left out as long as there is one."""
    idle = idle_rules(service)
    while idle:
        service = without_rule(service, idle[0])
        idle = idle_rules(service)
    return with_rules(service, service.rules)


def forgetting(service, spots):
    """Return the service that forgets the spots, a list of tuples (station, name of a register)."""
    for station, name in spots:
        check_station(station, service.stations)
        if name not in service.registers:
            raise UnknownName(name)
    return with_rules(service, [rule_forgetting(rule, service.registers, spots) for rule in service.rules])


def rule_forgetting(rule, registers, spots):
    """Return the rule whose turn clears the registers that the spots of its next station name."""
    turn, behind = rule[4:]
    lines = [CLEAR if (behind, name) in spots else line for line, name in zip(turn, registers)]
    return (*rule[:4], tuple(lines), behind)


def can_forget(service, spots):
    """Return None if the spots can be forgotten together, otherwise what difference returns."""
    return difference(service, forgetting(service, spots))


def forgettable(service):
    """Return the list of all spots each of which can be forgotten alone."""
    spots = [(station, name) for station in service.stations for name in service.registers]
    return [spot for spot in spots if can_forget(service, [spot]) is None]
