"""Single changes of a service, and suites of talks that show them."""

from talkalike.conditions import MOST_AROUND, MOST_SIZE, depth_of, parts_of, size_of
from talkalike.difference import difference
from talkalike.errors import NoSuchChange, TooManyChanges
from talkalike.house import House, run_talk
from talkalike.lists import without_repeats
from talkalike.services import with_rules

MOST_CHANGES = 60
ATOMS = ("matches", "same", "empty")


def changes_of(service):
    """Return the list of the single changes of the service, in order."""
    rules = service.rules
    found = [("leave", index) for index in range(len(rules))]
    found.extend([("swap", index) for index in range(len(rules) - 1)])
    words = without_repeats([rule[3][0] for rule in rules])
    found.extend([("say", index, word) for index, rule in enumerate(rules) for word in words if word != rule[3][0]])
    found.extend(changes_of_lines("show", rules, [rule[3][1:] for rule in rules]))
    found.extend(changes_of_lines("hold", rules, [rule[4] for rule in rules]))
    found.extend([("go", index, station) for index, rule in enumerate(rules)
                  for station in service.stations if station != rule[5]])
    found.extend([("negate", index, at) for index, rule in enumerate(rules)
                  for at in range(len(atoms_of(rule[2]))) if is_in_bounds(negated(rule[2], at))])
    return found


def changes_of_lines(word, rules, rows):
    """Return the list of the changes with this word; rows has the lines of each rule that are replaced."""
    found = []
    for index, row in enumerate(rows):
        name = rules[index][1]
        others = without_repeats([line for rule, lines in zip(rules, rows) if rule[1] == name for line in lines])
        for at, old in enumerate(row):
            found.extend([(word, index, at, line) for line in others if line != old])
    return found


def atoms_of(condition):
    """Return the list of the atoms of a condition, in the order in which they are read."""
    if condition[0] in ATOMS:
        return [condition]
    found = []
    for part in parts_of(condition):
        found.extend(atoms_of(part))
    return found


def negated(condition, number):
    """Return the condition in which the atom with this number is negated."""
    if condition[0] in ATOMS:
        return ("not", condition)
    parts = []
    for part in parts_of(condition):
        count = len(atoms_of(part))
        parts.append(negated(part, number) if 0 <= number < count else part)
        number -= count
    return (condition[0], *parts)


def is_in_bounds(condition):
    """Return True if the condition keeps the bounds of size and depth."""
    return size_of(condition) <= MOST_SIZE and depth_of(condition) <= MOST_AROUND + 1


def changed(service, change):
    """Return the changed service."""
    if change not in changes_of(service):
        raise NoSuchChange(change)
    return with_change(service, change)


def with_change(service, change):
    """Return the service with one of its single changes."""
    rules = service.rules
    word, index = change[:2]
    if word == "leave":
        del rules[index]
    elif word == "swap":
        rules[index], rules[index + 1] = rules[index + 1], rules[index]
    else:
        rules[index] = changed_rule(rules[index], change)
    return with_rules(service, rules)


def changed_rule(rule, change):
    """Return the rule with a change of its answer, its turn, its next station or its condition."""
    station, name, condition, answer, turn, behind = rule
    word, what = change[0], change[2]
    if word == "say":
        answer = (what, *answer[1:])
    elif word == "show":
        answer = (*answer[:what + 1], change[3], *answer[what + 2:])
    elif word == "hold":
        turn = (*turn[:what], change[3], *turn[what + 1:])
    elif word == "go":
        behind = what
    else:
        condition = negated(condition, what)
    return (station, name, condition, answer, turn, behind)


def part_in(first, second, talk):
    """Return True if the two services give different answers to some request of the talk."""
    return answers_otherwise(second, talk, run_talk(first, talk))


def answers_otherwise(service, talk, answers):
    """Return True if the service does not give these answers to the talk."""
    house = House(service)
    # As long as the answers are the same, the same ids are given, so each request can be asked.
    for request, answer in zip(talk, answers):
        if house.ask(request) != answer:
            return True
    return False


def suite_of(service):
    """Return (shown, talks): the suite, and for each single change the index of the first talk that shows it."""
    changes = changes_of(service)
    if len(changes) > MOST_CHANGES:
        raise TooManyChanges(len(changes))
    others = [with_change(service, change) for change in changes]
    talks = talks_that_show(service, others)
    rows = [shown_by(service, others, talk) for talk in talks]
    kept = indexes_needed(rows)
    shown = [first_index([rows[index][at] for index in kept]) for at in range(len(others))]
    return (shown, [talks[index] for index in kept])


def talks_that_show(service, others):
    """Return the list of the talks that are taken, one after the other, for the changed services."""
    talks = []
    told = []
    for other in others:
        # The error of this question is raised even if a talk shows the change already.
        found = difference(service, other)
        if found is not None and not any([answers_otherwise(other, talk, answers) for talk, answers in told]):
            talks.append(found[0])
            told.append((found[0], run_talk(service, found[0])))
    return talks


def shown_by(service, others, talk):
    """Return a list that tells of each changed service whether the talk shows its change."""
    answers = run_talk(service, talk)
    return [answers_otherwise(other, talk, answers) for other in others]


def indexes_needed(rows):
    """Return the indexes of the rows that are left if each row that the others make superfluous is left out in turn."""
    kept = list(range(len(rows)))
    for index, row in enumerate(rows):
        others = [other for other in kept if other != index]
        if all([any([rows[other][at] for other in others]) for at, shows in enumerate(row) if shows]):
            kept = others
    return kept


def first_index(shows):
    """Return the index of the first True in the list, or None."""
    return shows.index(True) if True in shows else None
