"""Events and logs out of lines."""

from alwaysnew.errors import InvalidText
from alwaysnew.kinds import is_name
from alwaysnew.machinereadings import check_end, letters_in, number_in, pair_in, possible, word_at

# What stands behind the first word of an event, but for a plan.
FORMS = {
    "read": ("letter",),
    "replace": ("number",),
    "force": ("number", "number"),
    "quiet": ("names",),
    "forget": ("number",),
}


def read_event(text):
    """Return the event that the string writes; raise InvalidText if it writes none."""
    return _event(text, 0)


def read_log(lines):
    """Return the log that the list of strings writes; raise InvalidText if it writes none."""
    if not lines:
        raise InvalidText(0, 0)
    beginning = _beginning(lines[0])
    return (beginning, *[_event(lines[line], line) for line in range(1, len(lines))])


def _event(text, line):
    words = text.split(" ")
    if words[0] == "plan":
        return ("plan", _machine_at(words, line, 1))
    if words[0] not in FORMS:
        raise InvalidText(line, 0)
    form = FORMS[words[0]]
    values = [possible(_value(form[at], word_at(words, line, at + 1)), line, at + 1) for at in range(len(form))]
    check_end(words, line, len(form) + 1)
    return (words[0], *values)


def _value(kind, word):
    if kind == "letter":
        return word if is_name(word) else None
    if kind == "number":
        return number_in(word)
    return _names_in(word)


def _names_in(word):
    return () if word == "-" else letters_in(word)


def _beginning(text):
    words = text.split(" ")
    if words[0] != "service":
        raise InvalidText(0, 0)
    quiet = possible(_names_in(word_at(words, 0, 1)), 0, 1)
    return ("service", _machine_at(words, 0, 2), quiet)


def _machine_at(words, line, first):
    letters = possible(letters_in(word_at(words, line, first)), line, first)
    # At least one state follows the letters.
    word_at(words, line, first + 1)
    many = len(words) - first - 1
    rows = [possible(_row_in(words[field], len(letters), many), line, field) for field in range(first + 1, len(words))]
    return (letters, tuple(rows))


def _row_in(word, width, many):
    pairs = [pair_in(part) for part in word.split(",")]
    if len(pairs) != width or not all([pair is not None and pair[0] < many for pair in pairs]):
        return None
    return tuple(pairs)
