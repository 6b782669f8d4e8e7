"""Goals: what an answer to a request is like."""

from talkalike.errors import BadGoal
from talkalike.patterns import is_pattern, matches
from talkalike.talks import is_name, values_of
from talkalike.values import is_id

MOST_GOALS = 20
MOST_DEPTH = 6
# The greatest index that a value of an answer has in a goal.
MOST_INDEX = 4


def check_goal(goal):
    """Raise BadGoal, with what is wrong as its place, if this is not a goal."""
    check_reading(goal, 1)
    if count_of(goal) > MOST_GOALS:
        raise BadGoal(goal)


def check_reading(goal, depth):
    """Raise BadGoal for the first goal inside that is too deep or has no form; depth is that of the goal itself."""
    if depth > MOST_DEPTH or not has_form(goal):
        raise BadGoal(goal)
    for part in parts_of(goal):
        check_reading(part, depth + 1)


def has_form(goal):
    """Return True if the value is one of the tuples that are goals, whatever the goals inside are."""
    if not isinstance(goal, tuple) or len(goal) == 0:
        return False
    word = goal[0]
    if word in ("and", "or"):
        return True
    if word == "not":
        return len(goal) == 2
    if word == "word":
        return len(goal) == 2 and is_name(goal[1])
    if word == "matches":
        return len(goal) == 3 and is_index(goal[1]) and is_pattern(goal[2])
    return word in ("asked", "new", "null") and len(goal) == 2 and is_index(goal[1])


def is_index(value):
    """Return True if a goal can name the value of an answer that has this index."""
    return is_id(value) and 0 <= value <= MOST_INDEX


def parts_of(goal):
    """Return the goals directly inside a goal, as a tuple."""
    return goal[1:] if goal[0] in ("and", "or", "not") else ()


def count_of(goal):
    """Return the number of goals that a goal contains, itself included."""
    return 1 + sum([count_of(part) for part in parts_of(goal)])


def patterns_of_goal(goal):
    """Return the list of the patterns of a goal in the order of reading, each as often as it occurs."""
    if goal[0] == "matches":
        return [goal[2]]
    found = []
    for part in parts_of(goal):
        found.extend(patterns_of_goal(part))
    return found


def meets(goal, request, given, answer):
    """Return True if the answer to the request meets the goal; given is the count of ids that were given before."""
    return answer is not None and holds_for(goal, values_of(request), given, answer)


def holds_for(goal, asked, given, answer):
    """Return True if the goal holds for the answer to a request with the values asked."""
    word = goal[0]
    if word == "and":
        return all([holds_for(part, asked, given, answer) for part in parts_of(goal)])
    if word == "or":
        return any([holds_for(part, asked, given, answer) for part in parts_of(goal)])
    if word == "not":
        return not holds_for(goal[1], asked, given, answer)
    if word == "word":
        return answer[0] == goal[1]
    if goal[1] + 1 >= len(answer):
        return False
    return is_like(goal, answer[goal[1] + 1], asked, given)


def is_like(goal, value, asked, given):
    """Return True if the value of the answer is what the goal says of it."""
    word = goal[0]
    if word == "matches":
        return isinstance(value, str) and matches(goal[2], value)
    if word == "asked":
        return value in asked
    if word == "new":
        return is_id(value) and value >= given
    return value is None
