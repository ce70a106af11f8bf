"""Machines and readings out of strings.

The functions that read a single word return None if it is not possible.
"""

from alwaysnew.errors import InvalidText
from alwaysnew.kinds import is_letters, is_name, is_reading

DIGITS = "0123456789"
MOST_DIGITS = 60


def machine_read(text):
    """Return the value that the string writes; raise InvalidText if it writes none."""
    lines = text.split("\n")
    letters = _letters_line(lines[0])
    if len(lines) == 1:
        raise InvalidText(1, 0)
    rows = [_state_line(line, lines[line], len(letters)) for line in range(1, len(lines))]
    return (letters, tuple(rows))


def reading_read(text):
    """Return the reading that the string writes; raise InvalidText if it writes none."""
    reading = () if text == "-" else tuple(text.split(","))
    if not is_reading(reading):
        raise InvalidText(0, 0)
    return reading


def number_in(word):
    """Return the number that a word writes, or None."""
    if not 1 <= len(word) <= MOST_DIGITS or not all([sign in DIGITS for sign in word]):
        return None
    if word[0] == "0" and word != "0":
        return None
    return int(word)


def letters_in(word):
    """Return the letters that a word writes, or None."""
    letters = tuple(word.split(","))
    return letters if is_letters(letters) else None


def pair_in(word):
    """Return the pair (next, word) that a word NEXT:WORD writes, or None."""
    number_text, _, word_text = word.partition(":")
    number = number_in(number_text)
    if number is None or not (word_text == "-" or is_name(word_text)):
        return None
    return (number, "" if word_text == "-" else word_text)


def word_at(words, line, field):
    """Return the word of a line with the index field; raise InvalidText if the line has no more words."""
    if field >= len(words):
        raise InvalidText(line, field)
    return words[field]


def possible(value, line, field):
    """Return the value of a word; raise InvalidText if it is None."""
    if value is None:
        raise InvalidText(line, field)
    return value


def check_end(words, line, many):
    """Raise InvalidText for the first word too many in a line that is to have many words."""
    if len(words) > many:
        raise InvalidText(line, many)


def _letters_line(text):
    words = text.split(" ")
    if words[0] != "letters":
        raise InvalidText(0, 0)
    letters = possible(letters_in(word_at(words, 0, 1)), 0, 1)
    check_end(words, 0, 2)
    return letters


def _state_line(line, text, width):
    words = text.split(" ")
    if words[0] != "state":
        raise InvalidText(line, 0)
    row = [possible(pair_in(word_at(words, line, field)), line, field) for field in range(1, width + 1)]
    check_end(words, line, width + 1)
    return tuple(row)
