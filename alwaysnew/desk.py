"""A desk that answers rows of text about a service."""

from alwaysnew.errors import InvalidRow, InvalidText
from alwaysnew.eventreadings import read_event, read_log
from alwaysnew.eventtexts import event_line
from alwaysnew.machinereadings import number_in
from alwaysnew.machinetexts import reading_text, word_text
from alwaysnew.replaying import replayed


def _undone(service):
    return event_line(service.undo())


def _many_events(service):
    return str(len(service))


def _log(service):
    return str(service)


def _live(service):
    return f"{service.live} {service.live_state}"


def _true(service):
    return "yes" if service.is_true else "no"


def _ready(service):
    return _joined(service.ready)


def _wrongs(service):
    return _joined(service.wrongs())


def _quiet(service):
    return reading_text(service.quiet)


def _memory(service):
    return str(service.memory)


def _table(service):
    return " / ".join(service.table())


def _heal(service):
    return _number_text(service.heal_time())


def _places(service, version):
    return ",".join([str(state) for state in service[version]])


def _soonest(service, version):
    reading = service.soonest_reading(version)
    return "none" if reading is None else reading_text(reading)


def _latest(service, version):
    return _number_text(service.latest_wait(version))


def _harm(service, version):
    harm = service.harm_now(version)
    return "never" if harm is None else _joined(harm)


def _needed(service, version):
    return " ".join([reading_text(words) for words in service.quiet_needed(version)])


# Answers to rows of one word, and to rows of a word and the number of a version.
ANSWERS = {
    "undo": _undone,
    "count": _many_events,
    "log": _log,
    "live": _live,
    "true": _true,
    "ready": _ready,
    "wrongs": _wrongs,
    "quiet": _quiet,
    "memory": _memory,
    "table": _table,
    "heal": _heal,
}
VERSION_ANSWERS = {
    "places": _places,
    "soonest": _soonest,
    "latest": _latest,
    "harm": _harm,
    "needed": _needed,
}


class Desk:
    """A desk with a service, at first none."""

    def __init__(self):
        self._service = None
        self._calls = 0

    def say(self, row):
        """Return the answer to the row, any string."""
        self._calls += 1
        words = row.split(" ")
        if words[0] == "service":
            self._service = replayed(_parsed_log(row))
            return "ok"
        if self._service is None:
            raise InvalidRow(row)
        if row in ANSWERS:
            answer = ANSWERS[row]
            return answer(self._service)
        if words[0] in VERSION_ANSWERS:
            answer = VERSION_ANSWERS[words[0]]
            return answer(self._service, _version_in(row, words))
        event = _parsed_event(row)
        word = self._service.go(event)
        return word_text(word) if event[0] == "read" else "ok"

    def counts(self):
        """Return the numbers of started and of finished calls of say."""
        # Nothing can ask while a call runs: so each one that was started is finished, with an error or without.
        return (self._calls, self._calls)


def _joined(numbers):
    return " ".join([str(number) for number in numbers]) if numbers else "-"


def _number_text(number):
    return "never" if number is None else str(number)


def _version_in(row, words):
    version = number_in(words[1]) if len(words) == 2 else None
    if version is None:
        raise InvalidRow(row)
    return version


def _parsed_log(row):
    try:
        return read_log([row])
    except InvalidText:
        raise InvalidRow(row) from None


def _parsed_event(row):
    try:
        return read_event(row)
    except InvalidText:
        raise InvalidRow(row) from None
