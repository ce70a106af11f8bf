"""The kinds of events of services."""

from alwaysnew.errors import InvalidPaper
from alwaysnew.kinds import is_name, is_number, is_quiet
from alwaysnew.machinechecker import lets_machine


def is_machine(thing):
    """Return whether thing, any value, is a machine."""
    try:
        return lets_machine(thing) > 0
    except InvalidPaper:
        return False


def is_event(thing):
    """Return whether thing, any value, is an event by kind."""
    if not isinstance(thing, tuple) or not 2 <= len(thing) <= 3:
        return False
    kind, value = thing[0], thing[1]
    if len(thing) == 3:
        return kind == "force" and is_number(value) and is_number(thing[2])
    if kind == "read":
        return is_name(value)
    if kind == "plan":
        return is_machine(value)
    if kind == "quiet":
        return is_quiet(value)
    return kind in ("replace", "forget") and is_number(value)
