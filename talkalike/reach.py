"""The pairs that talks with one object of two services reach, up to their kinds."""

from talkalike.compared import Compared
from talkalike.errors import TooManyKinds

MOST_KINDS = 1000


def reach(first, second, extra=()):
    """Return a dict from the kinds of all reached pairs to their examples."""
    search = Search(Compared(first, second, extra), parts)
    search.run()
    return search.examples()


def parts(request, given, outcome):
    """Return True if the request parts the two services."""
    return outcome[0] == "part"


class Search:
    """Follows all talks with one object of two services, as long as they lead to pairs of new kinds.

    ends, a function of a request, the count of ids that were given before it and its outcome, tells
    which last request is looked for. If it asks for the outcome only, fewer requests are needed.

    A turn is (talk, pair behind it, count of given ids, length of the talk that the search began with).
    """

    def __init__(self, compared, ends, outcome_only=True):
        self._compared = compared
        self._ends = ends
        self._outcome_only = outcome_only
        # From each kind that was reached to the turn that reached it first.
        self._reached = {}
        # The same turns: shorter talks come first, of these the ones with the shorter beginning, and
        # then the order of talks decides. What follows from turns in this order is in it, too.
        self._turns = []
        self._found = None

    def run(self):
        """Follow all talks, from the empty one on."""
        self._follow(([], None, 0, 0))
        self.run_from([])

    def run_from(self, starts):
        """Follow all talks that go on from turns; starts[n] is the list of those with n requests, in order."""
        done = 0
        for begun in starts:
            for turn in begun:
                self._reach(turn)
            # All turns with as many requests are there now, and none with more.
            level = self._turns[done:]
            done = len(self._turns)
            for turn in level:
                self._follow(turn)
        while done < len(self._turns):
            self._follow(self._turns[done])
            done += 1

    def found(self):
        """Return (talk, outcome of its last request, length of its beginning) for the first talk that ends, or None."""
        return self._found

    def turns(self):
        """Return the list of the turns that reached a kind first, in order."""
        return list(self._turns)

    def examples(self):
        """Return a dict from the kinds that were reached to their examples."""
        return {kind: self._compared.example(turn[1]) for kind, turn in self._reached.items()}

    def _follow(self, turn):
        """Ask all requests that matter behind the turn."""
        talk, pair, given, begun = turn
        compared, ends = self._compared, self._ends
        requests = compared.telling_requests(pair) if self._outcome_only else compared.all_requests(pair)
        for request in requests:
            outcome = compared.outcome(pair, request, given)
            if self._found is None and ends(request, given, outcome):
                self._found = ([*talk, request], outcome, begun)
            if outcome[0] == "go":
                self._reach(([*talk, request], outcome[1], outcome[2], begun))

    def _reach(self, turn):
        """Keep the turn if it is the first one that reaches its kind."""
        kind = self._compared.kind(turn[1])
        if kind in self._reached:
            return
        if len(self._reached) == MOST_KINDS:
            raise TooManyKinds()
        self._reached[kind] = turn
        self._turns.append(turn)
