"""Values that many tests use, and slow but plain ways to compute what the program computes."""

import copy
import itertools
import random
import re

from alwaysnew import errors
from alwaysnew.knowledge import Knowledge

OLD = (('a', 'b'), (((1, ''), (0, '')), ((0, ''), (1, ''))))
NEW = (('a', 'b'), (((1, ''), (2, 'no')), ((0, ''), (2, 'yes')), ((2, ''), (2, ''))))
FIRST = (('a', 'b'), (((1, ''), (2, '')), ((1, 'x'), (1, 'x')), ((2, 'y'), (2, 'y'))))
LATE = (('a',), (((1, ''),), ((2, 'x'),), ((2, 'y'),)))
LAST = (('a', 'b'), (((0, 'x'), (1, 'x')), ((0, 'y'), (1, 'y'))))
ONCE = (('a', 'b'), (((0, ''), (1, 'go')), ((1, ''), (1, ''))))
ALL = (('go',), (((0, 'x'),),))
COUNT = (('go',), (((1, 'x'),), ((0, ''),)))
LONE = (('a',), (((0, ''),),))
# States 1 and 3 are not reached, and state 1 is alike with state 2.
GAPS = (('a', 'b'), (((2, 'x'), (4, '')), ((4, 'y'), (1, '')), ((4, 'y'), (2, '')), ((0, 'z'), (3, 'z')),
                     ((0, ''), (4, 'x'))))
THREE = (('a', 'bb', 'c'), (((3, 'x'), (0, ''), (1, 'go')), ((1, ''), (2, 'x'), (0, 'x')),
                            ((2, 'go'), (2, ''), (0, '')), ((1, 'x'), (0, ''), (2, 'go'))))
# The names of these are words of the texts themselves.
NAMED = (('letters', 'plan', 'state'), (((1, 'state'), (0, 'letters'), (0, '')), ((0, 'quiet'), (1, ''), (1, 'read'))))
MACHINES = (OLD, NEW, FIRST, LATE, LAST, ONCE, ALL, COUNT, LONE, GAPS, THREE, NAMED)

SIXTY = 10 ** 60 - 1
DEEP = 'a'
for _ in range(28):
    DEEP = (DEEP,)

# Values of many kinds; none of them is a name, a state of a machine above, or a set of names.
ODD = (None, True, False, -1, -2, SIXTY, -SIXTY, 'A', 'aB', 'a b', ' a', 'a-', 'a1', '1', 'ninechars', 'a\n', '{',
       'zz:top', ('a', 'a'), ('b', 'a'), ('', 'a'), (1,), (None,), [], [0], ['a'], ['a', 'b'], ((),), (('a',),), [[]],
       ('a', ['b']), ('a', 1), DEEP, (DEEP, [DEEP]))

# Patterns of a name and of a number in texts.
NAME = '[a-z]{1,8}'
NUMBER = '(0|[1-9][0-9]{0,59})'

REFUSED = (errors.InvalidPaper, errors.InvalidLetter, errors.InvalidState, errors.InvalidBox, errors.NotReached,
           errors.InvalidKnowledge, errors.InvalidText, errors.InvalidEvent, errors.NothingToUndo, errors.InvalidRow)


def caught(call, *args, **named):
    """Return the error that a call raises, as a tuple of its class and its fields, or None.

    The call is made twice: it raises the same error again, and it does not change what it is given.
    """
    before = copy.deepcopy((args, named))
    found = []
    for _ in range(2):
        try:
            call(*args, **named)
            found.append(None)
        except errors.NewError as error:
            assert type(error) in REFUSED
            found.append((type(error), *vars(error).values()))
    assert found[0] == found[1]
    assert (args, named) == before
    return found[0]


def readings(letters, longest):
    """Return all readings of up to longest letters, shorter ones first, equally long ones ascending."""
    return [reading for many in range(longest + 1) for reading in itertools.product(letters, repeat=many)]


def plain_run(machine, reading, state=0, quiet=()):
    """Return the state to which a reading leads, and the words that it says."""
    words = []
    for letter in reading:
        state, word = machine[1][state][machine[0].index(letter)]
        words.append('' if word in quiet else word)
    return state, tuple(words)


def plain_pasts(machine):
    """Return a dict of the reached states with their least pasts."""
    pasts = {}
    for past in readings(machine[0], len(machine[1]) - 1):
        pasts.setdefault(plain_run(machine, past)[0], past)
    return pasts


def plain_parting(machine, one, other, quiet=()):
    """Return the least reading that parts two states, or None."""
    for reading in readings(machine[0], len(machine[1])):
        if plain_run(machine, reading, one, quiet)[1][-1:] != plain_run(machine, reading, other, quiet)[1][-1:]:
            return reading
    return None


def plain_reached(versions):
    """Return a dict of the reached standings with their least pasts."""
    found = {}
    level = {(0,) * len(versions): ()}
    while level:
        found.update(level)
        more = {}
        for standing, past in level.items():
            for letter in versions[0][0]:
                after = tuple(plain_run(machine, (letter,), state)[0] for machine, state in zip(versions, standing))
                if after not in found:
                    more[after] = min(more.get(after, (*past, letter)), (*past, letter))
        level = more
    return found


def plain_after(versions, past):
    """Return the standing to which a past leads."""
    return tuple(plain_run(machine, past)[0] for machine in versions)


def renumbered(machine, order):
    """Return the machine with its states in another order, which begins with state 0."""
    letters, rows = machine
    return (letters, tuple(tuple((order.index(follower), word) for follower, word in rows[state]) for state in order))


def changed_rows(machine):
    """Yield all machines in which one pair of one row has another state or another word."""
    letters, rows = machine
    for state, at in itertools.product(range(len(rows)), range(len(letters))):
        follower, word = rows[state][at]
        others = [(other, word) for other in range(len(rows)) if other != follower]
        for pair in (*others, (follower, 'x' if word != 'x' else '')):
            row = (*rows[state][:at], pair, *rows[state][at + 1:])
            yield (letters, (*rows[:state], row, *rows[state + 1:]))


def plain_parting_past(one, other, quiet=()):
    """Return the least of the shortest pasts whose last letter says different words in both, or None."""
    found = [(*past, letter) for (p, q), past in plain_reached((one, other)).items() for letter in one[0]
             if plain_run(one, (letter,), p, quiet)[1] != plain_run(other, (letter,), q, quiet)[1]]
    return min(found, key=lambda past: (len(past), past), default=None)


def made_machine(seed, states=4, letters=('a', 'b'), words=('', '', 'x', 'y')):
    """Return a machine that depends on the seed only."""
    chance = random.Random(seed)
    rows = [tuple([(chance.randrange(states), chance.choice(words)) for _ in letters]) for _ in range(states)]
    return (letters, tuple(rows))


def small_machines():
    """Return all machines with two states, the letter a, and the words x and nothing."""
    pairs = [(follower, word) for follower in (0, 1) for word in ('', 'x')]
    return [(('a',), ((one,), (other,))) for one in pairs for other in pairs]


def version_groups():
    """Return groups of one to three versions with the same letters."""
    groups = [(OLD,), (GAPS,), (LONE,), (OLD, NEW), (NEW, OLD), (OLD, FIRST), (GAPS, LAST), (OLD, OLD), (LATE, LONE),
              (OLD, NEW, FIRST), (FIRST, GAPS, OLD), (NEW, LAST, NEW), (LATE, LATE, LONE)]
    for seed in range(100, 112, 2):
        groups.append((made_machine(seed, 4), made_machine(seed + 1, 3)))
        groups.append((made_machine(seed, 3), made_machine(seed + 1, 2), made_machine(seed + 50, 3)))
        groups.append((made_machine(seed, 3, THREE[0]), THREE))
    return groups


def is_new_kind(value):
    """Return whether a value consists of tuples, strings, bools, None and integers of exactly these kinds."""
    if type(value) is tuple:
        return all(is_new_kind(part) for part in value)
    return type(value) in (str, int, bool, type(None))


def known(groups):
    """Yield some knowledges of each group of versions."""
    for versions in groups:
        reached = sorted(plain_reached(versions))
        for given in (reached, reached[:1], reached[-1:], reached[::2], reached[1::3] or reached):
            yield Knowledge(versions, tuple(given))


def plain_equal(one, other):
    """Return whether two values are equal, and their kinds too."""
    if type(one) is tuple:
        return type(other) is tuple and len(one) == len(other) and all(map(plain_equal, one, other))
    return type(one) is type(other) and one == other


def plain_line(pieces, states, letter):
    """Return the line standing to which a letter leads, and the word that the line says."""
    if not pieces:
        return (), letter
    if letter == '':
        return tuple(states), ''
    follower, word = pieces[0][1][states[0]][pieces[0][0].index(letter)]
    standing, last = plain_line(pieces[1:], states[1:], word)
    return (follower, *standing), last


def standings_of(pieces):
    """Return all line standings, ascending."""
    return list(itertools.product(*[range(len(piece[1])) for piece in pieces]))


def plain_line_run(pieces, states, reading):
    """Return the line standing to which a reading leads, and the words that the line says."""
    words = []
    for letter in reading:
        states, word = plain_line(pieces, states, letter)
        words.append(word)
    return tuple(states), tuple(words)


def changed_texts(text, seed, many):
    """Yield texts with one or two changed words, lines or signs."""
    chance = random.Random(seed)
    pieces = ['', ' ', '\n', ',', ':', '-', '0', '1', '00', 'a', 'b', 'z', 'A', 'state', 'letters', '1:-', ':x', '~',
              'abcdefghi', '9' * 60, '9' * 61]
    for _ in range(many):
        changed = text
        for _ in range(chance.choice((1, 1, 2))):
            parts = re.split(chance.choice(('( )', '(\n)', '(,)', '(:)', '( |\n)', '()')), changed)
            at = chance.randrange(len(parts))
            action = chance.randrange(4)
            if action == 0:
                parts[at] = chance.choice(pieces)
            elif action == 1:
                del parts[at]
            elif action == 2:
                parts.insert(at, chance.choice(pieces))
            else:
                other = chance.randrange(len(parts))
                parts[at], parts[other] = parts[other], parts[at]
            changed = ''.join(parts)
        yield changed
