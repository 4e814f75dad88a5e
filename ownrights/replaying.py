"""Logs: whether a service can be made of them, and the service behind their events."""

from ownrights.errors import RightError
from ownrights.eventtexts import is_event
from ownrights.kinds import is_tuple
from ownrights.services import Service


def _begins_a_log(thing):
    """Whether any value is the first element of a log, of which a service can be made."""
    if not is_tuple(thing, 4) or thing[0] != "service":
        return False
    _, store, start, family = thing
    try:
        Service(store, start, family)
    except RightError:
        return False
    return True


def is_log(thing):
    """Whether any value is a log by kind; whether its events are possible is not looked at."""
    if not isinstance(thing, tuple) or thing == () or not _begins_a_log(thing[0]):
        return False
    return all([is_event(event) for event in thing[1:]])


def replayed(log):
    """A new service after the events of a log; InvalidEvent for the first one that is not possible."""
    _, store, start, family = log[0]
    service = Service(store, start, family)
    for event in log[1:]:
        service.follow(event)
    return service
