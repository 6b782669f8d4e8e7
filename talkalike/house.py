"""Houses: services at work."""

from talkalike.errors import NotGiven
from talkalike.steps import opened, step, with_own_anew
from talkalike.talks import check_request, check_talk, is_opening, name_of, values_of
from talkalike.values import is_id


class House:
    """A house of a service: its objects and the count of the ids that were given."""

    def __init__(self, service):
        self._service = service
        # From ids to objects, in the order in which they were opened.
        self._objects = {}
        self._given = 0

    def ask(self, request):
        """Return the answer to the request."""
        check_request(self._service.requests, request)
        place = place_not_given(request, self._given)
        if place is not None:
            raise NotGiven(place)
        values = list(values_of(request))
        if is_opening(request):
            number = self._given
            found = opened(self._service, values, number)
        else:
            number = request[0]
            found = self._asked(number, name_of(request), values)
        if found is None:
            return None
        item, answer, self._given = found
        self._objects[number] = item
        return answer

    def object_of(self, number):
        """Return the object with this id, its own ids numbered from 0 in order, or None if there is none."""
        if number not in self._objects:
            return None
        station, held = self._objects[number]
        return (station, with_own_anew(held))

    def objects(self):
        """Return the list of the ids of all objects, in the order in which they were opened."""
        return list(self._objects)

    def given(self):
        """Return the count of the ids that were given."""
        return self._given

    def _asked(self, number, name, values):
        """Return what step does with the object that has this id, None if there is no such object."""
        if number not in self._objects:
            return None
        return step(self._service, self._objects[number], number, name, values, self._given)


def place_not_given(request, given):
    """Return the index in the request of the first id from 0 on that was not given, or None."""
    for index, item in enumerate(request):
        if is_id(item) and item >= given:
            return index
    return None


def run_talk(service, talk):
    """Return the list of the answers of a new house to the requests of the talk, in order."""
    return [answer for answer, _ in run_told(service, talk)]


def run_told(service, talk):
    """Return, for each request of the talk, (answer, list of the ids that the answer gives, in order)."""
    check_talk(service.requests, talk)
    house = House(service)
    turns = []
    for index, request in enumerate(talk):
        before = house.given()
        place = place_not_given(request, before)
        if place is not None:
            raise NotGiven((index, place))
        answer = house.ask(request)
        turns.append((answer, list(range(before, house.given()))))
    return turns
