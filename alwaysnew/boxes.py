"""Boxes: machines in walked form, alone, in lines, and made from others."""

from alwaysnew.errors import InvalidBox, InvalidLetter
from alwaysnew.kinds import is_letters, is_name, is_number, is_reading, is_word
from alwaysnew.lines import check_words, line_rows
from alwaysnew.machinechecker import lets_machine
from alwaysnew.machinereadings import machine_read
from alwaysnew.machinetexts import machine_text
from alwaysnew.running import (check_reading, check_state, is_letter, least_ways, led, past_along, quieted, said,
                               walked)


class Box:
    """A machine in walked form. A box never changes."""

    def __init__(self, machine):
        lets_machine(machine)
        self._machine = walked(machine)

    @property
    def machine(self):
        """The machine in walked form."""
        return self._machine

    @property
    def letters(self):
        """The letters of the machine."""
        return self._machine[0]

    def __len__(self):
        return len(self._machine[1])

    def __contains__(self, thing):
        return is_letter(self._machine[0], thing)

    def __getitem__(self, state):
        check_state(self._machine, state)
        return self._machine[1][state]

    def __iter__(self):
        # Without this, Python would ask for one state after the other.
        raise TypeError("a box cannot be iterated over")

    def __call__(self, past):
        return said(self._machine, past)

    def __or__(self, other):
        return Line(self, other)

    def __eq__(self, other):
        return isinstance(other, Box) and self._machine == other._machine

    def __str__(self):
        return str(machine_text(self._machine))

    def after(self, past):
        """Return the state to which the past leads."""
        return led(self._machine, past)

    def pasts(self):
        """Yield the least pasts to the states, in the order of the states."""
        ways = least_ways((self._machine,))
        for standing in ways:
            yield past_along(ways, standing)

    @classmethod
    def parsed(cls, text):
        """Return the Box that the string writes."""
        return cls(machine_read(text))

    @staticmethod
    def silent(*letters):
        """Return a box with one state that says nothing."""
        names = tuple(sorted(set(letters)))
        return Box((names, (((0, ""),) * len(names),)))


class Line(Box):
    """A box whose parts read one after the other what the part before says."""

    def __init__(self, *boxes):
        if not boxes:
            raise InvalidBox("none", -1)
        for at in range(len(boxes)):
            if not isinstance(boxes[at], Box):
                raise InvalidBox("shape", at)
        pieces = [part.machine for part in boxes]
        check_words(pieces)
        self._parts = tuple(boxes)
        start = (0,) * len(pieces)
        Box.__init__(self, (pieces[0][0], line_rows(pieces, [start])[1]))

    @property
    def parts(self):
        """The tuple of the boxes."""
        return self._parts


class Every(Box):
    """A box that says the word at every many-th letter."""

    def __init__(self, letters, many, word):
        _check_letters(letters)
        if not is_number(many) or many < 1:
            raise InvalidBox("many", -1)
        _check_word(word)
        waiting = [((state + 1, ""),) * len(letters) for state in range(many - 1)]
        due = ((0, word),) * len(letters)
        Box.__init__(self, (letters, (*waiting, due)))


class Echo(Box):
    """A box that says the letter that it reads."""

    def __init__(self, letters):
        _check_letters(letters)
        Box.__init__(self, (letters, (tuple([(0, letter) for letter in letters]),)))


class Once(Box):
    """A box that says the word when it reads the letter for the first time."""

    def __init__(self, letters, letter, word):
        _check_letters(letters)
        check_reading(letters, (letter,))
        _check_word(word)
        waiting = tuple([(1, word) if name == letter else (0, "") for name in letters])
        over = ((1, ""),) * len(letters)
        Box.__init__(self, (letters, (waiting, over)))


class Renamed(Box):
    """A box with new names for some letters of another one."""

    def __init__(self, box, **names):
        letters, rows = box.machine
        for letter in names:
            if letter not in letters:
                raise InvalidLetter(letter)
        if not all([is_name(names[letter]) for letter in names]):
            raise InvalidBox("name", -1)
        renamed = [names.get(letter, letter) for letter in letters]
        if len(set(renamed)) < len(renamed):
            raise InvalidBox("twice", -1)
        ascending = sorted(renamed)
        places = [renamed.index(name) for name in ascending]
        turned = [tuple([row[place] for place in places]) for row in rows]
        Box.__init__(self, (tuple(ascending), tuple(turned)))


class Quiet(Box):
    """A box that leaves words of another one unsaid."""

    def __init__(self, box, *words):
        for at in range(len(words)):
            if not is_name(words[at]):
                raise InvalidBox("word", at)
        Box.__init__(self, quieted(box.machine, words))


class Spelled(Box):
    """A box that has another one read a reading for each letter."""

    def __init__(self, box, table):
        if not _is_table(table):
            raise InvalidBox("table", -1)
        for entry in table:
            check_reading(box.letters, entry[1])
        letters = tuple([entry[0] for entry in table])
        rows = [_spelled_row(box.machine, state, table) for state in range(len(box))]
        Box.__init__(self, (letters, tuple(rows)))


def _check_letters(letters):
    if not is_letters(letters):
        raise InvalidBox("letters", -1)


def _check_word(word):
    if not is_word(word):
        raise InvalidBox("word", -1)


def _is_table(thing):
    if not isinstance(thing, tuple) or not all([_is_entry(entry) for entry in thing]):
        return False
    return is_letters(tuple([entry[0] for entry in thing]))


def _is_entry(thing):
    return isinstance(thing, tuple) and len(thing) == 2 and is_reading(thing[1])


def _spelled_row(machine, state, table):
    return tuple([_spelled_pair(machine, state, reading) for _, reading in table])


def _spelled_pair(machine, state, reading):
    words = [word for word in said(machine, reading, state=state) if word != ""]
    return (led(machine, reading, state=state), words[-1] if words else "")
