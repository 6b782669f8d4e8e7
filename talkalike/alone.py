"""The talk with one object of a talk alone."""

from talkalike.errors import NotAnObject
from talkalike.house import run_told
from talkalike.talks import is_opening, replaced, values_of
from talkalike.values import is_id


def alone(service, talk, number):
    """Return (talk with the object alone, list of tuples (id in the talk, new name))."""
    turns = turns_of(number, [(request, ids) for request, (_, ids) in zip(talk, run_told(service, talk))])
    # Requests may also be sent to ids that are none of an object, but none of them opens one.
    if not turns or not is_opening(turns[0][0]):
        raise NotAnObject(number)
    names = new_names(turns)
    return ([replaced(request, names) for request, _ in turns], list(names.items()))


def turns_of(number, turns):
    """Return those of the turns (request, ids that its answer gives) that open the object or are sent to it."""
    found = []
    for request, ids in turns:
        # The first id that the answer to an opening gives is that of the object.
        sent_to = ids[:1] if is_opening(request) else [request[0]]
        if sent_to == [number]:
            found.append((request, ids))
    return found


def new_names(turns):
    """Return a dict from the ids in the turns of an object to their new names, in the order in which they get them."""
    names = {}
    made_up = 0
    given = 0
    for request, ids in turns:
        for value in values_of(request):
            if is_id(value) and value not in names:
                made_up += 1
                names[value] = -made_up
        for one in ids:
            names[one] = given
            given += 1
    return names
