"""The first talk behind which two services do what is looked for."""

from talkalike.compared import Compared
from talkalike.reach import Search


def first_talk(first, second, ends, extra=()):
    """Return (talk, outcome of its last request) for the first talk whose last request satisfies ends, or None."""
    compared = Compared(first, second, extra)
    search = Search(compared, ends, outcome_only=False)
    search.run()
    found = search.found()
    turns = search.turns()
    if turns and (found is None or len(found[0]) > 1):
        # No talk with several requests comes before one that opens twice.
        found = opening_behind(compared, ends, turns[0]) or found
    return None if found is None else found[:2]


def opening_behind(compared, ends, turn):
    """Return (talk, outcome) for the first opening behind the turn that satisfies ends, or None.

    An opening does the same behind every talk, so it is asked behind the first one alone.
    """
    talk, _, given, _ = turn
    for request in compared.later_openings():
        outcome = compared.outcome(None, request, given)
        if ends(request, given, outcome):
            return ([*talk, request], outcome)
    return None
