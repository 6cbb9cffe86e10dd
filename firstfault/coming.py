"""Checks that come to an earlier place."""

from firstfault.changes import with_step_ahead, without_step
from firstfault.errors import NotUsable
from firstfault.keys import all_keys, check_at, is_outside, step_at
from firstfault.running import complaints_by, trail


def may_come(program, key, place):
    """Whether the check with this key may come to the place."""
    check_usable(program, key, place)
    return is_place_for(program, complaints_by(program, key), place)


def come(program, key, place):
    """Return the program in which the check has come to the place, None if it may not come there."""
    if not may_come(program, key, place):
        return None
    found = {at for state, at in quiet_arrivals(program, complaints_by(program, key), place)}
    check = ("check", step_at(program, key)[1], ("not", ("in", tuple(sorted(found)))))
    return with_step_ahead(without_step(program, key), place_without(place, key), check)


def places_for(program, key):
    """Return the set of all places to which the check with this key may come."""
    states = complaints_by(program, key)
    places = [place for place in all_keys(program) if is_outside(program, place)]
    return tuple([place for place in places if is_place_for(program, states, place)])


def check_usable(program, key, place):
    """Raise the first error that applies to a check and a place, which are any values."""
    step_at(program, key)
    step_at(program, place)
    check_at(program, key)
    if not is_outside(program, place):
        raise NotUsable("place", -1)


def is_place_for(program, states, place):
    """Whether the runs from all of these states come to the place and say nothing from there on."""
    return all([at is not None for state, at in quiet_arrivals(program, states, place)])


def quiet_arrivals(program, states, place):
    """Return the list of the pairs (state, at) for these states, at being what quiet_arrival tells."""
    return [(state, quiet_arrival(program, state, place)) for state in states]


def quiet_arrival(program, state, place):
    """Return the state with which the run from a state comes to the place, a key outside.

    None if it does not come there, or says something from there on.
    """
    visits = trail(program, state)
    for k, (key, at) in enumerate(visits):
        if key == place:
            words = [step_at(program, later)[0] for later, there in visits[k:]]
            return None if "say" in words else at
    return None


def place_without(place, key):
    """Return the place as it is once the check with this key is taken out."""
    path, own = place[1], key[1]
    last = len(own) - 1
    # Only what stands behind the check in the same steps moves up, with all in it.
    if place[0] != key[0] or len(path) <= last or path[:last] != own[:last] or path[last] <= own[last]:
        return place
    return place[0], path[:last] + (path[last] - 1,) + path[last + 1:]
