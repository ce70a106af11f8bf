"""Logs of services, and services out of logs."""

from alwaysnew.events import is_event, is_machine
from alwaysnew.kinds import is_quiet
from alwaysnew.services import Service


def is_log(thing):
    """Return whether thing, any value, is a log."""
    if not isinstance(thing, tuple) or not thing:
        return False
    return _is_beginning(thing[0]) and all([is_event(event) for event in thing[1:]])


def replayed(log):
    """Return a new service after the events of the log, or raise the first error."""
    _, machine, quiet = log[0]
    service = Service(machine, quiet=quiet)
    service.follow(log[1:])
    return service


def _is_beginning(thing):
    if not isinstance(thing, tuple) or len(thing) != 3:
        return False
    return thing[0] == "service" and is_machine(thing[1]) and is_quiet(thing[2])
