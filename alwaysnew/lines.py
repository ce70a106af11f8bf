"""Lines of machines: each piece reads what the one before it says."""

from alwaysnew.errors import InvalidBox
from alwaysnew.running import check_reading, check_states


def line_step(pieces, states, letter):
    """Return the pair of the line standing to which the letter leads, and the word that the line says."""
    check_pieces(pieces)
    check_reading(pieces[0][0], (letter,))
    check_states(pieces, states)
    return line_moved(pieces, states, letter)


def line_standing(pieces, past):
    """Return the line standing to which the past leads from (0, .., 0)."""
    check_pieces(pieces)
    check_reading(pieces[0][0], past)
    return line_led(pieces, (0,) * len(pieces), past)[0]


def check_pieces(pieces):
    """Raise InvalidBox if the pieces make no line."""
    if not pieces:
        raise InvalidBox("none", -1)
    check_words(pieces)


def check_words(pieces):
    """Raise InvalidBox for the first piece in whose rows a word stands that the next one does not read."""
    for at in range(len(pieces) - 1):
        letters = pieces[at + 1][0]
        for row in pieces[at][1]:
            if not all([word == "" or word in letters for _, word in row]):
                raise InvalidBox("word", at)


def line_moved(pieces, states, letter):
    """Return what line_step returns, for pieces, states and a letter that are known to be right."""
    standing = list(states)
    word = letter
    for at in range(len(pieces)):
        letters, rows = pieces[at]
        standing[at], word = rows[states[at]][letters.index(word)]
        if word == "":
            break
    return (tuple(standing), word)


def line_led(pieces, states, reading):
    """Return the pair of the line standing to which the reading leads, and the last word that the line says."""
    word = ""
    for letter in reading:
        states, word = line_moved(pieces, states, letter)
    return (states, word)


def line_rows(pieces, starts):
    """Return the line standings that readings reach from starts, numbered, and their rows.

    starts are distinct and come first. A row has a pair for each letter: the number of the standing to which it
    leads, and the word that the line says.
    """
    standings = list(starts)
    places = {}
    for standing in starts:
        places[standing] = len(places)
    rows = []
    while len(rows) < len(standings):
        row = []
        for letter in pieces[0][0]:
            standing, word = line_moved(pieces, standings[len(rows)], letter)
            if standing not in places:
                places[standing] = len(standings)
                standings.append(standing)
            row.append((places[standing], word))
        rows.append(tuple(row))
    return (standings, tuple(rows))
