"""The first talk that parts two services although the first one refuses nothing."""

from talkalike.compared import Compared
from talkalike.difference import told
from talkalike.reach import Search


def serves(first, second):
    """Return what difference does, for the talks in which the first service refuses no request."""
    search = Search(Compared(first, second), parts_what_first_answers)
    search.run()
    return told(search.found())


def parts_what_first_answers(request, given, outcome):
    """Return True if the services are parted, and the first one does not refuse the request."""
    return outcome[0] == "part" and outcome[1] is not None
