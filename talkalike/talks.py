"""Names, kinds of requests, requests and talks, and their order."""

from talkalike.errors import BadKinds, BadRequest
from talkalike.texts import compare_keys, is_text
from talkalike.values import is_id, is_value, value_key

MOST_LETTERS = 12
MOST_NAMES = 4
MOST_KINDS_OF_REQUESTS = 6


def is_name(value):
    """Return True if the value is a name, otherwise False."""
    return is_text(value) and 1 <= len(value) <= MOST_LETTERS


def check_kinds(kinds, registers=()):
    """Raise BadKinds unless this is a list of kinds of a service with these registers."""
    if not 1 <= len(kinds) <= MOST_KINDS_OF_REQUESTS:
        raise BadKinds()
    for kind in kinds:
        if not is_kind(kind, registers):
            raise BadKinds()
    names = [kind[0] for kind in kinds]
    if names[0] != "new" or has_repeats(names):
        raise BadKinds()


def is_kind(kind, registers):
    """Return True if the tuple is a kind of a service with these registers."""
    if not 1 <= len(kind) <= MOST_NAMES or not all([is_name(name) for name in kind]):
        return False
    for name in kind[1:]:
        if name == "self" or name in registers:
            return False
    return not has_repeats(kind[1:])


def has_repeats(names):
    """Return True if two of the names are equal."""
    return len(set(names)) < len(names)


def kind_number(kinds, name):
    """Return the index of the kind with this name, or None."""
    for number, kind in enumerate(kinds):
        if kind[0] == name:
            return number
    return None


def is_opening(request):
    """Return True if the request is of the kind "new", otherwise False."""
    return request[:1] == ("new",)


def name_of(request):
    """Return the name of the kind of a request."""
    return "new" if is_opening(request) else request[1]


def values_of(request):
    """Return the values of a request as a tuple."""
    return request[1:] if is_opening(request) else request[2:]


def replaced(request, others):
    """Return the request in which others, a dict, replaces values and the id of the object."""
    values = [others.get(value, value) for value in values_of(request)]
    if is_opening(request):
        return ("new", *values)
    return (others.get(request[0], request[0]), name_of(request), *values)


def check_request(kinds, request, place=None):
    """Raise BadRequest with this place if the tuple is not a request of these kinds."""
    if not is_request(kinds, request):
        raise BadRequest(place)


def is_request(kinds, request):
    """Return True if the tuple is a request of these kinds."""
    if not is_opening(request):
        if len(request) < 2 or not is_id(request[0]) or request[1] == "new":
            return False
    number = kind_number(kinds, name_of(request))
    if number is None or len(values_of(request)) != len(kinds[number]) - 1:
        return False
    return all([is_value(value) for value in values_of(request)])


def check_talk(kinds, talk):
    """Raise BadRequest with the index of the first tuple that is not a request of these kinds."""
    for index, request in enumerate(talk):
        check_request(kinds, request, index)


def request_key(kinds, request):
    """Return a tuple; the tuples of two requests of these kinds have the order of the requests."""
    # Behind the kind, the first item decides: the object, or "new", which all requests of that kind share.
    items = request[:1] + values_of(request)
    return (kind_number(kinds, name_of(request)), [value_key(item) for item in items])


def talk_key(kinds, talk):
    """Return a tuple; the tuples of two talks with these kinds have the order of the talks."""
    return (len(talk), [request_key(kinds, request) for request in talk])


def compare_requests(kinds, first, second):
    """Return -1 if the first request comes first, 1 if the second one does, and 0 if they are equal."""
    return compare_keys(request_key(kinds, first), request_key(kinds, second))


def compare_talks(kinds, first, second):
    """Return -1 if the first talk comes first, 1 if the second one does, and 0 if they are equal."""
    return compare_keys(talk_key(kinds, first), talk_key(kinds, second))


def least_talk(kinds, talks):
    """Return the talk of the list that comes first, as a new list, or None if the list is empty."""
    if not talks:
        return None
    return list(min(talks, key=lambda talk: talk_key(kinds, talk)))
