"""The first talk that parts two services."""

from talkalike.compared import Compared
from talkalike.reach import Search, parts


def difference(first, second):
    """Return (talk, answer of first to its last request, answer of second) for the first talk that parts, or None."""
    search = Search(Compared(first, second), parts)
    search.run()
    return told(search.found())


def told(found):
    """Return (talk, answer of the first service, answer of the second one) for what a search found, or None."""
    if found is None:
        return None
    talk, outcome, _ = found
    return (talk, outcome[1], outcome[2])
