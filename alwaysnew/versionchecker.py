"""The checker of versions."""

from alwaysnew.errors import InvalidPaper
from alwaysnew.machinechecker import lets_machine


def lets_versions(thing):
    """Return the number of versions; raise InvalidPaper for any other value."""
    if not isinstance(thing, tuple) or not thing:
        raise InvalidPaper("shape", -1)
    for i in range(len(thing)):
        try:
            lets_machine(thing[i])
        except InvalidPaper as error:
            raise InvalidPaper(error.word, (i, error.at)) from None
        if thing[i][0] != thing[0][0]:
            raise InvalidPaper("letters", i)
    return len(thing)
