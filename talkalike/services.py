"""Services, which are given as data: stations, registers, kinds of requests, and rules."""

from talkalike.errors import BadCount, BadName, DuplicateName
from talkalike.lists import without_repeats
from talkalike.rules import check_rule, patterns_of_rule
from talkalike.talks import check_kinds, is_name

MOST_STATIONS = 6
MOST_REGISTERS = 3
MOST_RULES = 40


class Service:
    """A service. It never changes, so houses and questions can share it."""

    def __init__(self, stations, registers, requests, rules):
        check_service(stations, registers, requests, rules)
        self._stations = list(stations)
        self._registers = list(registers)
        self._requests = list(requests)
        self._rules = list(rules)
        # Steps are asked for far more often than services are made.
        self._names = {kind[0]: (*registers, *kind[1:], "self") for kind in requests}
        self._indexes = {(station, kind[0]): indexes_of_rules(rules, station, kind[0])
                         for station in stations for kind in requests}

    @property
    def stations(self):
        """A new list of the stations."""
        return list(self._stations)

    @property
    def registers(self):
        """A new list of the registers."""
        return list(self._registers)

    @property
    def requests(self):
        """A new list of the kinds of requests."""
        return list(self._requests)

    @property
    def rules(self):
        """A new list of the rules."""
        return list(self._rules)

    def rule_at(self, index):
        """Return the rule with this index."""
        return self._rules[index]

    def names_for(self, name):
        """Return a tuple of the names in the rules for this kind of requests: registers, values, "self"."""
        return self._names[name]

    def indexes_for(self, station, name):
        """Return a tuple of the indexes of the rules for this kind that an object at the station can take."""
        return self._indexes[station, name]


def check_service(stations, registers, requests, rules):
    """Raise the first error of a service that is made of these lists."""
    if not 1 <= len(stations) <= MOST_STATIONS:
        raise BadCount("stations")
    check_names(stations)
    if len(registers) > MOST_REGISTERS:
        raise BadCount("registers")
    check_names(registers)
    if "self" in registers:
        raise BadName("self")
    check_kinds(requests, registers)
    if len(rules) > MOST_RULES:
        raise BadCount("rules")
    for rule in rules:
        check_rule(rule, stations, registers, requests)


def check_names(names):
    """Raise an error for the first item that is not a name, or that is equal to an earlier one."""
    for index, name in enumerate(names):
        if not is_name(name):
            raise BadName(name)
        if name in names[:index]:
            raise DuplicateName(name)


def indexes_of_rules(rules, station, name):
    """Return a tuple of the indexes of the rules for this station and this kind of requests, in order."""
    return tuple([index for index, rule in enumerate(rules) if rule[0] in (None, station) and rule[1] == name])


def same_service(first, second):
    """Return True if the two services have equal stations, registers, requests and rules."""
    if first.stations != second.stations or first.registers != second.registers:
        return False
    return first.requests == second.requests and first.rules == second.rules


def with_rules(service, rules):
    """Return a new service that has these rules, and all else from the service."""
    return Service(service.stations, service.registers, service.requests, rules)


def patterns_of(services):
    """Return the list of the different patterns of the services, in the order of first occurrence."""
    return without_repeats([pattern for service in services for rule in service.rules
                            for pattern in patterns_of_rule(rule)])
