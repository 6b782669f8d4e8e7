"""Conditions: how they are checked, when they hold, and their normal form."""

from talkalike.errors import BadCondition, UnknownName
from talkalike.patterns import check_pattern, matches

MOST_AROUND = 5
MOST_SIZE = 20
ALWAYS = ("always",)
NEVER = ("never",)
# How many elements a condition with this word has; "and" and "or" have any number.
LENGTHS = {"always": 1, "never": 1, "not": 2, "matches": 3, "same": 3, "empty": 2}


def check_condition(condition, names, registers):
    """Raise the first error of the condition for these names and registers."""
    check_reading(condition, names, registers, 0)
    if size_of(condition) > MOST_SIZE:
        raise BadCondition(condition)


def check_reading(condition, names, registers, around):
    """Raise the first error that reading the condition meets; around counts the conditions around it."""
    if around > MOST_AROUND or not has_form(condition):
        raise BadCondition(condition)
    word = condition[0]
    if word == "matches":
        check_known(condition[1], names)
        check_pattern(condition[2])
    elif word == "same":
        check_known(condition[1], names)
        check_known(condition[2], names)
    elif word == "empty":
        check_known(condition[1], registers)
    for part in parts_of(condition):
        check_reading(part, names, registers, around + 1)


def has_form(condition):
    """Return True if the tuple has the word and the number of elements of a condition."""
    if len(condition) == 0:
        return False
    return condition[0] in ("and", "or") or LENGTHS.get(condition[0]) == len(condition)


def check_known(name, names):
    """Raise UnknownName if the name is not in the list."""
    if name not in names:
        raise UnknownName(name)


def parts_of(condition):
    """Return the conditions directly inside a condition, as a tuple."""
    return condition[1:] if condition[0] in ("and", "or", "not") else ()


def size_of(condition):
    """Return the number of conditions that are read, the condition itself included."""
    return 1 + sum([size_of(part) for part in parts_of(condition)])


def depth_of(condition):
    """Return the depth of a condition: 1 if it has no parts, otherwise 1 more than the greatest depth of them."""
    return 1 + max([depth_of(part) for part in parts_of(condition)], default=0)


def holds(condition, meaning):
    """Return True if the condition holds for the meaning of names, otherwise False."""
    word = condition[0]
    if word == "and":
        return all([holds(part, meaning) for part in parts_of(condition)])
    if word == "or":
        return any([holds(part, meaning) for part in parts_of(condition)])
    if word == "not":
        return not holds(condition[1], meaning)
    if word == "matches":
        value = meaning[condition[1]]
        return isinstance(value, str) and matches(condition[2], value)
    if word == "same":
        value = meaning[condition[1]]
        return value is not None and value == meaning[condition[2]]
    if word == "empty":
        return meaning[condition[1]] is None
    return word == "always"


def normal(condition):
    """Return the normal form of the condition."""
    word = condition[0]
    if word == "and":
        return joined("and", parts_of(condition), ALWAYS, NEVER)
    if word == "or":
        return joined("or", parts_of(condition), NEVER, ALWAYS)
    if word == "not":
        return denied(normal(condition[1]))
    return condition


def joined(word, parts, idle, deciding):
    """Return the normal form of an "and" or "or"; idle changes nothing in it, deciding alone decides it."""
    members = []
    for part in parts:
        for member in members_in(word, normal(part)):
            if member != idle and member not in members:
                members.append(member)
    if deciding in members:
        return deciding
    if len(members) == 0:
        return idle
    if len(members) == 1:
        return members[0]
    return (word, *members)


def members_in(word, condition):
    """Return what a part with this normal form adds to an "and" or "or" with this word."""
    return condition[1:] if condition[0] == word else (condition,)


def denied(condition):
    """Return the normal form of the "not" of a condition that is a normal form."""
    if condition == ALWAYS:
        return NEVER
    if condition == NEVER:
        return ALWAYS
    if condition[0] == "not":
        return condition[1]
    return ("not", condition)


def patterns_in(condition):
    """Return the list of the patterns of the condition in the order of reading, duplicates included."""
    if condition[0] == "matches":
        return [condition[2]]
    found = []
    for part in parts_of(condition):
        found.extend(patterns_in(part))
    return found


def names_in(condition):
    """Return the list of the names of the condition in the order of reading, duplicates included."""
    word = condition[0]
    if word in ("matches", "empty"):
        return [condition[1]]
    if word == "same":
        return list(condition[1:])
    found = []
    for part in parts_of(condition):
        found.extend(names_in(part))
    return found
