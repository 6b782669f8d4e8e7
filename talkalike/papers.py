"""Papers: lists of pairs that show that two services give the same answers to every talk."""

from talkalike.compared import Compared
from talkalike.pairs import check_pair, known_after, pair_key
from talkalike.reach import Search, parts


def paper(first, second):
    """Return the examples of all reached kinds, in the order of pairs, or None if some talk parts the services."""
    search = Search(Compared(first, second), parts)
    search.run()
    if search.found() is not None:
        return None
    return sorted(list(search.examples().values()), key=lambda pair: pair_key(first, second, pair))


def judge(first, second, pairs):
    """Return True if the list of pairs is closed for the two services, otherwise False."""
    compared = Compared(first, second)
    for index, pair in enumerate(pairs):
        check_pair(first, second, pair, index)
    listed = {compared.kind(pair): pair for pair in pairs}
    if not all_stay(compared, listed, None, 0):
        return False
    for pair in listed.values():
        if not all_stay(compared, listed, pair, known_after(pair)):
            return False
    return True


def all_stay(compared, listed, pair, given):
    """Return True if no request to the pair parts the services or leads to a kind that is not listed.

    If the pair is None, the requests are those that open it.
    """
    for request in compared.telling_requests(pair):
        outcome = compared.outcome(pair, request, given)
        if outcome[0] == "part" or (outcome[0] == "go" and compared.kind(outcome[1]) not in listed):
            return False
    return True
