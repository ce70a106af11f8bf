"""The moments of a service: what it has between two events, and what an event makes of it."""

from alwaysnew.knowledge import Knowledge
from alwaysnew.readiness import is_ready, true_states
from alwaysnew.running import is_letter, is_state, led, step, unsaid


class Moment:
    """What is known of the versions, which one is live and in which state, and the quiet words.

    A moment never changes.
    """

    def __init__(self, known, version, state, hushed):
        self.known = known
        self.version = version
        self.state = state
        self.hushed = hushed


def first_moment(machine, quiet):
    """Return the moment with which a service of the machine begins."""
    return Moment(Knowledge.begun(machine), 0, 0, quiet)


def live_machine(moment):
    """Return the machine of the live version."""
    return moment.known.versions[moment.version]


def is_right(moment, quiet):
    """Return whether the live state is true with these quiet words."""
    return moment.state in true_states(moment.known, moment.version, quiet=quiet)


def word_from(moment, state, letter):
    """Return the word that the live version says for the letter from the state, a quiet one left unsaid."""
    return unsaid(step(live_machine(moment), state, letter)[1], moment.hushed)


def word_of(moment, event):
    """Return what is said by an event that is possible."""
    return word_from(moment, moment.state, event[1]) if event[0] == "read" else ""


def reason_against(moment, event, most_versions):
    """Return the reason for which an event by kind is not possible, or the empty string."""
    kind, value = event[0], event[1]
    versions = moment.known.versions
    if kind == "read":
        return "" if is_letter(versions[0][0], value) else "letter"
    if kind == "plan":
        if value[0] != versions[0][0]:
            return "letters"
        return "" if len(versions) < most_versions else "many"
    if kind == "quiet":
        return "loud" if is_right(moment, moment.hushed) and not is_right(moment, value) else ""
    if value >= len(versions):
        return "version"
    if kind == "force":
        return "" if is_state(versions[value], event[2]) else "state"
    if kind == "forget":
        return "live" if value == moment.version else ""
    if value == moment.version and is_right(moment, moment.hushed):
        return "live"
    return "" if is_ready(moment.known, value, quiet=moment.hushed) else "ready"


def moment_after(moment, event):
    """Return the moment after an event that is possible."""
    known, version, state, hushed = moment.known, moment.version, moment.state, moment.hushed
    kind, value = event[0], event[1]
    if kind == "read":
        return Moment(known.after(value), version, led(live_machine(moment), (value,), state=state), hushed)
    if kind == "plan":
        return Moment(known.extended(value), version, state, hushed)
    if kind == "replace":
        return Moment(known, value, true_states(known, value, quiet=hushed)[0], hushed)
    if kind == "force":
        return Moment(known, value, event[2], hushed)
    if kind == "quiet":
        return Moment(known, version, state, value)
    moved = version - 1 if value < version else version
    return Moment(known.forgotten(value), moved, state, hushed)
