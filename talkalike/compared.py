"""Two services that are compared: what all questions about them share."""

from talkalike.classes import check_patterns, class_of, first_table
from talkalike.errors import OtherRequests
from talkalike.lists import without_repeats
from talkalike.moves import MOST_FIRST_TEXTS, move, requests_of_kind, values_that_matter
from talkalike.pairs import example_with, kind_with, values_held
from talkalike.rules import names_of_rule
from talkalike.services import patterns_of


class Compared:
    """Two services, and patterns that tell texts apart beside their own ones.

    The tables of texts are made once, since a question may ask for very many moves.
    """

    def __init__(self, first, second, extra=()):
        if first.requests != second.requests:
            raise OtherRequests()
        self._first = first
        self._second = second
        self._kinds = first.requests
        self._patterns = without_repeats([*patterns_of([first, second]), *extra])
        check_patterns(self._patterns)
        self._table = first_table(self._patterns, MOST_FIRST_TEXTS)
        self._rows = list(self._table.values())
        # From texts that pairs held to their classes.
        self._classes = {}
        # From stations and kinds of requests to what _unnamed returns for them.
        self._skipped = {}

    def kind(self, pair):
        """Return the kind of the pair."""
        self._learn(pair)
        return kind_with(self._classes, pair)

    def example(self, pair):
        """Return the example of the pair's kind."""
        self._learn(pair)
        return example_with(self._table, self._classes, pair)

    def outcome(self, pair, request, given):
        """Return what move returns; given is the count of given ids."""
        return move(self._first, self._second, pair, request, given)

    def all_requests(self, pair):
        """Return, in order, the list of the requests that matter for the pair; the openings, if it is None."""
        found = []
        for kind in self._kinds_for(pair):
            found.extend(requests_of_kind(self._rows, kind, pair))
        return found

    def telling_requests(self, pair):
        """Return those of all_requests that matter if only outcomes are asked for.

        For every other one, both services refuse it, or an earlier one has the same outcome since it
        differs only in values that no rule names.
        """
        stations = (self._first.stations[0], self._second.stations[0]) if pair is None else (pair[0][0], pair[1][0])
        found = []
        for kind in self._kinds_for(pair):
            unnamed = self._unnamed(stations, kind)
            if unnamed is not None:
                found.extend(requests_of_kind(self._rows, kind, pair, unnamed))
        return found

    def later_openings(self):
        """Return, in order, the list of the openings that matter behind other requests: the id 0 was given then."""
        return [("new", *values) for values in values_that_matter(self._rows, [0], self._kinds[0][1:])]

    def _kinds_for(self, pair):
        """Return the list of the kinds of the requests that can be sent to the pair, or of those that open it."""
        return self._kinds[:1] if pair is None else self._kinds[1:]

    def _learn(self, pair):
        """Find the class of each text that the pair holds, if it is not known yet."""
        for value in values_held(pair):
            if isinstance(value, str) and value not in self._classes:
                self._classes[value] = class_of(self._patterns, value)

    def _unnamed(self, stations, kind):
        """Return the list of the values of the kind that no rule for objects at these stations names.

        Return None if there is no rule for them at all.
        """
        key = (stations, kind[0])
        if key not in self._skipped:
            rules = []
            for service, station in zip((self._first, self._second), stations):
                rules.extend([service.rule_at(index) for index in service.indexes_for(station, kind[0])])
            named = [name for rule in rules for name in names_of_rule(rule)]
            self._skipped[key] = [name for name in kind[1:] if name not in named] if rules else None
        return self._skipped[key]
