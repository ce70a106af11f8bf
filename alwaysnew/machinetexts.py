"""Machines and readings as strings."""


def machine_text(machine):
    """Return the lines of the machine, joined by newlines."""
    letters, rows = machine
    lines = [f"letters {reading_text(letters)}"]
    for row in rows:
        lines.append(" ".join(["state", *pair_texts(row)]))
    return "\n".join(lines)


def reading_text(reading):
    """Return the letters with commas between, or - without any."""
    return ",".join(reading) if reading else "-"


def pair_texts(row):
    """Return the list of the strings NEXT:WORD of a row."""
    return [f"{follower}:{word_text(word)}" for follower, word in row]


def word_text(word):
    """Return the word, or - if nothing is said."""
    return word if word else "-"
