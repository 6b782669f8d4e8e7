"""The first talk whose last answer is what a goal says."""

from talkalike.goals import check_goal, meets, patterns_of_goal
from talkalike.search import first_talk


def saying(service, goal):
    """Return (talk, its last answer) for the first talk whose last answer meets the goal, or None."""
    check_goal(goal)

    def ends(request, given, outcome):
        return outcome[0] == "go" and meets(goal, request, given, outcome[3])

    found = first_talk(service, service, ends, tuple(patterns_of_goal(goal)))
    if found is None:
        return None
    talk, outcome = found
    return (talk, outcome[3])
