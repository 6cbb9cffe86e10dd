"""Logs of services, and what becomes of them."""

from firstfault.errors import FaultError
from firstfault.events import is_event
from firstfault.kinds import is_pair
from firstfault.services import Service, check_first


def is_log(thing):
    """Whether any value is a first element of which a service can be made, and events by kind, possible or not."""
    if not isinstance(thing, tuple) or len(thing) == 0 or not is_first(thing[0]):
        return False
    return all([is_event(event) for event in thing[1:]])


def replayed(log):
    """Return a new service after the events of a log, none of them counted; the first error if there is one."""
    service = Service(log[0][1])
    for event in log[1:]:
        service.happen(event)
    return service


def is_first(thing):
    """Whether any value is the first element of a log, of which a service can be made."""
    if not is_pair(thing) or thing[0] != "service":
        return False
    try:
        check_first(thing[1])
    except FaultError:
        return False
    return True
