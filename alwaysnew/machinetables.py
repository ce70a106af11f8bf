"""Machines as tables."""

from alwaysnew.machinetexts import pair_texts

STATE_WIDTH = 3
PAIR_WIDTH = 11


def machine_table(machine):
    """Return a list with a string for each state of the machine."""
    rows = machine[1]
    return [_table_row(state, rows[state]) for state in range(len(rows))]


def _table_row(state, row):
    cells = [str(state).rjust(STATE_WIDTH), *[text.ljust(PAIR_WIDTH) for text in pair_texts(row)]]
    return " ".join(cells)
