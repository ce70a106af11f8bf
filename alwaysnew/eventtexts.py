"""Events and logs as lines."""

from alwaysnew.machinetexts import pair_texts, reading_text


def event_line(event):
    """Return the line of an event by kind."""
    kind = event[0]
    if kind == "plan":
        return f"plan {_machine_line(event[1])}"
    if kind == "quiet":
        return f"quiet {reading_text(event[1])}"
    return " ".join([str(word) for word in event])


def log_lines(log):
    """Return the list of the lines of a log."""
    _, machine, quiet = log[0]
    first = f"service {reading_text(quiet)} {_machine_line(machine)}"
    return [first, *[event_line(event) for event in log[1:]]]


def _machine_line(machine):
    letters, rows = machine
    return " ".join([reading_text(letters), *[",".join(pair_texts(row)) for row in rows]])
