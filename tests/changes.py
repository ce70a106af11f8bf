"""Papers that are changed somewhere, and the errors that the document states for them, one after the other."""

import itertools
import random

from tests.examples import plain_after, plain_run
from tests.harmexamples import is_harm_paper, plain_ready, plain_set, plain_wrong, sets_of_states, stated_harm
from tests.noteexamples import has_states, places_of, unlike_places
from tests.tailexamples import plain_step

PARTS = (0, 1, -1, 10 ** 60, True, False, None, '', 'a', 'c', 'B', (), (0,), (0, 1), ('a',), [], [0], ['a'], 'most',
         'within')
NUMBERS = (0, 0, 1, 1, 2, 3, 4, 5, 9, 10 ** 60)
NAMES = ('a', 'a', 'a', 'b', 'b', 'bb', 'c', 'x')


def changed(value, chance):
    """Return a value that is changed in one place, somewhere in it; mostly it stays of the same kind."""
    if isinstance(value, tuple) and value and chance.random() < 0.85:
        at = chance.randrange(len(value))
        return (*value[:at], changed(value[at], chance), *value[at + 1:])
    if chance.random() < 0.12:
        return chance.choice(PARTS)
    if isinstance(value, tuple):
        return changed_tuple(value, chance)
    return chance.choice(NAMES if isinstance(value, str) else NUMBERS)


def changed_tuple(value, chance):
    """Return a tuple with elements left out, repeated, exchanged, or more of the same."""
    if not value:
        return chance.choice(((0,), ('a',), ('b',), ('a', 'a'), ('b', 'a'), ((0, 1),), ((1, 2, 0),)))
    at, other = chance.randrange(len(value)), chance.randrange(len(value))
    parts = list(value)
    parts[at], parts[other] = parts[other], parts[at]
    return chance.choice(((*value[:at], *value[at + 1:]), (*value[:at], value[at], *value[at:]), tuple(parts),
                          (*value[:at], changed(value[at], chance), *value[at:]), value[:at], value[at:]))


def changes(value, seed, many):
    """Yield a value that is changed in one or two places, so many times."""
    chance = random.Random(seed)
    for _ in range(many):
        other = changed(value, chance)
        yield other if chance.random() < 0.7 else changed(other, chance)


def number(thing):
    """Return whether a value is a number."""
    return type(thing) is int and thing >= 0


def name(thing):
    """Return whether a value is a name."""
    return type(thing) is str and 1 <= len(thing) <= 8 and all('a' <= sign <= 'z' for sign in thing)


def like(thing, *shape):
    """Return whether a value is a tuple with elements of these shapes: kinds, strings, or lists for tuples of one."""
    return type(thing) is tuple and len(thing) == len(shape) and all(map(has_shape, thing, shape))


def has_shape(thing, shape):
    """Return whether a value is of a shape: a kind, a string, a list for a tuple of such, or a tuple of shapes."""
    if isinstance(shape, str):
        return type(thing) is str and thing == shape
    if isinstance(shape, list):
        return type(thing) is tuple and all(has_shape(part, shape[0]) for part in thing)
    if isinstance(shape, tuple):
        return like(thing, *shape)
    return shape(thing)


def anything(_):
    """Return True: any value is of this kind."""
    return True


def strangers(machine, *readings):
    """Yield the errors for elements that are no letters."""
    for w, reading in enumerate(readings):
        for k, letter in enumerate(reading):
            if letter not in machine[0]:
                yield 'letter', (w, k)


def wait_errors(machine, states, thing, quiet=()):
    """Yield the errors of [49], as long as they can be told."""
    if like(thing, 'within', [([number], number)]):
        yield from within_errors(machine, states, thing[1], quiet)
    elif like(thing, 'forever', [name], [name]):
        _, reading, ring = thing
        yield from strangers(machine, reading, ring)
        reached = plain_set(machine, states, reading)
        if ring == () or plain_set(machine, reached, ring) != reached:
            yield 'ring', -1
        if plain_ready(machine, reached, quiet):
            yield 'ready', -1
    else:
        yield 'shape', -1


def within_errors(machine, states, rows, quiet):
    """Yield the errors of a paper with rows."""
    for k, (known, _) in enumerate(rows):
        if known not in sets_of_states(machine) or plain_ready(machine, known, quiet):
            yield 'states', k
        if k and known <= rows[k - 1][0]:
            yield 'rise', k
    for k, (known, count) in enumerate(rows):
        greatest = 0
        for j, letter in enumerate(machine[0]):
            behind = plain_set(machine, known, (letter,))
            if not plain_ready(machine, behind, quiet):
                found = [other for some, other in rows if some == behind]
                if not found:
                    yield 'next', (k, j)
                greatest = max([greatest, *found])
        if count != greatest + 1:
            yield 'number', k
    if not plain_ready(machine, states, quiet) and states not in [known for known, _ in rows]:
        yield 'missing', -1


def harm_errors(machine, one, states, thing, quiet=()):
    """Yield the errors of [56], as long as they can be told."""
    is_most = like(thing, 'most', number, [name], [(number, number, number)])
    if not is_most and not like(thing, 'without', number, [name], [name]):
        yield 'shape', -1
        return
    _, other, reading, rest = thing
    if other not in states:
        yield 'other', -1
    yield from strangers(machine, reading, () if is_most else rest)
    if is_most:
        yield from most_errors(machine, one, states, thing, quiet)
    else:
        both = [plain_run(machine, reading, state)[0] for state in (one, other)]
        led = [plain_run(machine, rest, state)[0] for state in both]
        if led != both or plain_wrong(machine, *both, rest, quiet) == 0:
            yield 'ring', -1


def most_errors(machine, one, states, thing, quiet):
    """Yield the errors of the rows of a harm paper."""
    _, other, reading, rows = thing
    for k, (p, q, _) in enumerate(rows):
        if p >= q or q >= len(machine[1]):
            yield 'states', k
        if k and (p, q) <= rows[k - 1][:2]:
            yield 'rise', k
    numbers = {row[:2]: row[2] for row in rows}
    for (k, (p, q, count)), (j, letter) in itertools.product(enumerate(rows), enumerate(machine[0])):
        behind = tuple(sorted(plain_run(machine, (letter,), state)[0] for state in (p, q)))
        if behind[0] != behind[1] and behind not in numbers:
            yield 'next', (k, j)
        if count < numbers.get(behind, 0) + plain_wrong(machine, p, q, (letter,), quiet):
            yield 'less', (k, j)
    for k, state in enumerate(states):
        pair = (min(one, state), max(one, state))
        if state != one and pair not in numbers:
            yield 'missing', k
        if state != one and numbers[pair] > plain_wrong(machine, one, other, reading, quiet):
            yield 'above', k


def choice_errors(machine, states, many, thing, quiet=()):
    """Yield the errors of [59], as long as they can be told."""
    if not has_shape(thing, [(number, [number], lambda choice: choice == () and type(choice) is tuple
                              or like(choice, number, anything))]):
        yield 'shape', -1
        return
    keys = [row[:2] for row in thing]
    for k, (left, known, choice) in enumerate(thing):
        if known not in sets_of_states(machine):
            yield 'states', k
        if k and keys[k] <= keys[k - 1]:
            yield 'rise', k
        if choice == ():
            if left == 0:
                yield 'left', k
            for j, letter in enumerate(machine[0]):
                if (left - 1, plain_set(machine, known, (letter,))) not in keys:
                    yield 'next', (k, j)
        else:
            state, paper = choice
            if state >= len(machine[1]):
                yield 'state', k
            if any(harm_errors(machine, state, known, paper, quiet)):
                yield 'harm', k
    if (many, states) not in keys:
        yield 'missing', -1


def quiet_errors(machine, states, words, thing, most=0):
    """Yield the errors of [60], as long as they can be told."""
    if not like(thing, number, anything, [[(number, [name])]]):
        yield 'shape', -1
        return
    state, paper, bars = thing
    if state >= len(machine[1]):
        yield 'state', -1
    if any(harm_errors(machine, state, states, paper, words)):
        yield 'harm', -1
    assert is_harm_paper(machine, state, states, paper, words)
    harm = stated_harm(machine, state, paper, words)
    if harm is None or harm > most:
        yield 'harm', -1
    if [len(bar) for bar in bars] != [len(machine[1])] * len(words):
        yield 'many', -1
    for k, bar in enumerate(bars):
        less = tuple(word for word in words if word != words[k])
        for t, (other, reading) in enumerate(bar):
            if (other not in states or any(strangers(machine, reading))
                    or plain_wrong(machine, t, other, reading, less) <= most):
                yield 'bar', (k, t)


def book_errors(versions, hand, wanted, book, quiet=()):
    """Yield the errors of [53], as long as they can be told."""
    if not has_shape(book, [([number], number, [number], [number])]):
        yield 'shape', -1
        return
    letters = versions[0][0]
    for k, (at_hand, note, true, nexts) in enumerate(book):
        if not has_states(versions, hand, at_hand):
            yield 'hand', k
        if not has_states(versions, wanted, true):
            yield 'true', k
        if len(nexts) != len(letters):
            yield 'nexts', k
        if k and (at_hand, note) <= book[k - 1][:2]:
            yield 'rise', k
    trues = {row[:2]: row[2] for row in book}
    start = trues.get(((0,) * len(hand), 0))
    if start is None or unlike_places(versions, wanted, start, (0,) * len(wanted), quiet):
        yield 'begin', -1
    for k, (at_hand, _, true, nexts) in enumerate(book):
        for j, letter in enumerate(letters):
            behind = trues.get((plain_step([versions[i] for i in hand], at_hand, letter), nexts[j]))
            if behind is None:
                yield 'next', (k, j)
            if unlike_places(versions, wanted, behind, plain_step([versions[i] for i in wanted], true, letter), quiet):
                yield 'alike', (k, j)


def needs_errors(versions, hand, wanted, thing, quiet=()):
    """Yield the errors of [54], as long as they can be told."""
    if not like(thing, [[name]], [(number, [name])]):
        yield 'shape', -1
        return
    pasts, partings = thing
    both = list(itertools.combinations(range(len(pasts)), 2))
    if not pasts or len(partings) != len(both):
        yield 'many', -1
    yield from strangers(versions[0], *pasts)
    standings = [plain_after(versions, past) for past in pasts]
    for k, standing in enumerate(standings):
        if places_of(standing, hand) != places_of(standings[0], hand):
            yield 'hand', k
    for k, ((i, j), (index, reading)) in enumerate(zip(both, partings)):
        if index not in wanted or any(strangers(versions[0], reading)):
            yield 'parting', k
        states = [standings[past][index] for past in (i, j)]
        words = [plain_run(versions[index], reading, state, quiet)[1][-1:] for state in states]
        if words[0] == words[1]:
            yield 'parting', k
