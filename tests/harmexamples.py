"""Machines of which one state is taken for another, and slow but plain ways to compute what can come of it."""

import functools
import itertools
import random

from tests.examples import (FIRST, GAPS, LAST, LATE, LONE, NEW, OLD, THREE, made_machine, plain_parting, plain_run)
from tests.tailexamples import BRIEF, FLIP, TWO

# At the limits: five states, three letters, four names that are said.
WIDE = (THREE[0], (((1, 'p'), (2, ''), (0, 'q')), ((3, 'p'), (2, ''), (4, 's')), ((2, 'r'), (3, ''), (4, 'q')),
                   ((4, 'p'), (4, 'q'), (4, 'r')), ((4, 's'), (4, 'q'), (4, 'r'))))
# States 0 and 1 are never alike, but at most one word is wrong.
STUCK = (('a', 'b'), (((0, ''), (2, 'x')), ((1, ''), (2, 'y')), ((2, ''), (2, ''))))
# Both letters exchange the states 0 and 1; each letter b is said by one of them.
SWAP = (('a', 'b'), (((1, ''), (1, 'x')), ((0, ''), (0, '')), ((2, ''), (2, 'x'))))
QUIETS = ((), ('x',), ('no', 'yes'), ('never', 'p', 's', 'x', 'y'))


def falling_machine(seed, states, letters, words, least=1):
    """Return a machine that depends on the seed only, whose states never lead to lesser ones."""
    chance = random.Random(seed)
    rows = [tuple((min(state + chance.randint(least, 2), states - 1), chance.choice(words)) for _ in letters)
            for state in range(states)]
    return (letters, tuple(rows))


def harm_machines():
    """Return machines of many kinds."""
    machines = [OLD, NEW, FIRST, LATE, LAST, LONE, GAPS, THREE, BRIEF, FLIP, TWO, WIDE, STUCK, SWAP]
    for seed in range(6):
        machines.append(falling_machine(seed, 4 + seed % 2, ('a', 'b'), ('', '', 'x', 'y'), least=seed % 2))
        machines.append(falling_machine(seed, 5, THREE[0], ('', 'p', 'q', 'r', 's'), least=0))
        machines.append(made_machine(seed, 3 + seed % 3))
    machines.append(made_machine(7, 5, THREE[0], ('', '', 'p', 'q', 'r', 's')))
    # With these one waits for a harm that is not 0.
    machines += [falling_machine(seed, 5, ('a', 'b'), ('', 'x', 'y'), least=0) for seed in (7, 61, 112)]
    machines += [falling_machine(seed, 5, THREE[0], ('', 'p', 'q', 'r', 's'), least=0) for seed in (58, 288)]
    # With these there are several least sets of quiet words.
    machines += [falling_machine(seed, 5, THREE[0], ('', 'p', 'q', 'r', 's')) for seed in (11, 18, 148)]
    return machines


def sets_of_states(machine):
    """Return all nonempty sets of states of a machine."""
    states = range(len(machine[1]))
    return [chosen for many in range(1, len(machine[1]) + 1) for chosen in itertools.combinations(states, many)]


def cases(few=1):
    """Yield machines with all sets of their states, or every few-th one, and some quiet words."""
    for machine in harm_machines():
        for states in sets_of_states(machine)[::few]:
            for quiet in QUIETS:
                yield machine, states, quiet


@functools.cache
def unlike(machine, one, other, quiet):
    """Return whether two states are not alike."""
    return plain_parting(machine, one, other, quiet) is not None


def plain_ready(machine, states, quiet=()):
    """Return whether each two states are alike."""
    return not any(unlike(machine, one, other, quiet) for one, other in itertools.combinations(states, 2))


def plain_set(machine, states, reading):
    """Return the set to which a reading leads."""
    return tuple(sorted({plain_run(machine, reading, state)[0] for state in states}))


def plain_soonest(machine, states, quiet=()):
    """Return the least of the shortest readings that lead to ready states, or None."""
    seen, level = set(), {states: ()}
    while level:
        ready = [reading for reached, reading in level.items() if plain_ready(machine, reached, quiet)]
        if ready:
            return min(ready)
        seen |= set(level)
        more = {}
        for reached, reading in level.items():
            for letter in machine[0]:
                more.setdefault(plain_set(machine, reached, (letter,)), []).append((*reading, letter))
        level = {reached: min(found) for reached, found in more.items() if reached not in seen}
    return None


def plain_latest(machine, states, quiet=()):
    """Return the least number of letters that always lead to ready states, or None."""
    level, seen, many = {states}, [], 0
    while not all(plain_ready(machine, reached, quiet) for reached in level):
        if level in seen:
            return None
        seen.append(level)
        level = {plain_set(machine, reached, (letter,)) for reached in level for letter in machine[0]}
        many += 1
    return many


def plain_wrong(machine, one, other, reading, quiet=()):
    """Return how many words of a reading are wrong."""
    both = [plain_run(machine, reading, state, quiet)[1] for state in (one, other)]
    return sum(word != true for word, true in zip(*both))


@functools.cache
def plain_harms(machine, quiet=()):
    """Return a dict of the greatest numbers of wrong words for each two states, None without a bound.

    With a bound no pair comes twice with a wrong word between: so there are at most as many as pairs. Without one
    so many letters have more: they lead to a ring with a wrong word, and often enough through it.
    """
    states = range(len(machine[1]))
    pairs = list(itertools.product(states, states))
    moves = {}
    for one, other in pairs:
        moves[one, other] = [((p, q), ('' if word in quiet else word) != ('' if true in quiet else true))
                             for (p, word), (q, true) in zip(machine[1][one], machine[1][other])]
    most = dict.fromkeys(pairs, 0)
    for _ in range(len(pairs) * (len(pairs) + 2)):
        before = most
        most = {pair: max([is_wrong + before[behind] for behind, is_wrong in moves[pair]]) for pair in pairs}
        if most == before:
            break
    return {pair: number if number <= len(pairs) else None for pair, number in most.items()}


def plain_harm(machine, one, states, quiet=()):
    """Return the harm of a state, or None."""
    harms = [plain_harms(machine, quiet)[one, state] for state in states]
    return None if None in harms else max(harms)


def plain_least_harm(machine, states, quiet=()):
    """Return the least harm and the least state that has it, or None."""
    harms = {state: plain_harm(machine, state, states, quiet) for state in range(len(machine[1]))}
    bounded = {state: harm for state, harm in harms.items() if harm is not None}
    least = min(bounded.values(), default=None)
    return None if least is None else (least, min(state for state in bounded if bounded[state] == least))


def plain_heals(machine, one, states, quiet=()):
    """Return after how many letters a state is alike with those led on from states, whatever they are; or None."""
    level, seen, many = {(one, state) for state in states}, [], 0
    while any(unlike(machine, p, q, quiet) for p, q in level):
        if level in seen:
            return None
        seen.append(level)
        level = {(plain_run(machine, (letter,), p)[0], plain_run(machine, (letter,), q)[0])
                 for p, q in level for letter in machine[0]}
        many += 1
    return many


def no_bound_last(harm):
    """Return what sorts harms: a number is less than no bound."""
    return (harm is None, harm or 0)


@functools.cache
def plain_sure(machine, states, many, quiet=()):
    """Return the harm of which one can be sure, by the rule of [58]."""
    least = plain_least_harm(machine, states, quiet)
    now = None if least is None else least[0]
    if many == 0:
        return now
    later = [plain_sure(machine, plain_set(machine, states, (letter,)), many - 1, quiet) for letter in machine[0]]
    return min(now, max(later, key=no_bound_last), key=no_bound_last)


def names_said(machine):
    """Return all names that stand in a machine as words."""
    return sorted({word for row in machine[1] for _, word in row} - {''})


def plain_least_quiet(machine, states, most=0):
    """Return the least sets of quiet words, by the words of [60]: among all sets, with a name that nobody says."""
    names = sorted([*names_said(machine), 'unsaid'])
    enough = []
    for many in range(len(names) + 1):
        for words in itertools.combinations(names, many):
            least = plain_least_harm(machine, states, tuple(words))
            if least is not None and least[0] <= most:
                enough.append(words)
    return tuple(sorted(words for words in enough if not any(set(less) < set(words) for less in enough)))


def is_wait_paper(machine, states, thing, quiet=()):
    """Return whether a value is a wait paper, by the words of [48]."""
    if thing[0] == 'forever':
        _, reading, ring = thing
        reached = plain_set(machine, states, reading)
        return (ring != () and plain_set(machine, reached, ring) == reached
                and not plain_ready(machine, reached, quiet))
    numbers = dict(thing[1])
    if list(thing[1]) != sorted(thing[1]) or len(numbers) != len(thing[1]) or thing[0] != 'within':
        return False
    if not (plain_ready(machine, states, quiet) or states in numbers):
        return False
    for known, number in thing[1]:
        if known not in sets_of_states(machine) or plain_ready(machine, known, quiet):
            return False
        behind = [plain_set(machine, known, (letter,)) for letter in machine[0]]
        found = [0 if plain_ready(machine, some, quiet) else numbers.get(some) for some in behind]
        if None in found or number != 1 + max(found):
            return False
    return True


def is_harm_paper(machine, one, states, thing, quiet=()):
    """Return whether a value is a harm paper, by the words of [56]."""
    form, other, reading, rest = thing
    if other not in states:
        return False
    if form == 'without':
        both = [plain_run(machine, reading, state)[0] for state in (one, other)]
        return ([plain_run(machine, rest, state)[0] for state in both] == both
                and plain_wrong(machine, *both, rest, quiet) > 0)
    numbers = {(p, q): number for p, q, number in rest}
    if list(rest) != sorted(rest) or len(numbers) != len(rest) or form != 'most':
        return False
    for (p, q), number in numbers.items():
        if not 0 <= p < q < len(machine[1]):
            return False
        for letter in machine[0]:
            behind = tuple(sorted(plain_run(machine, (letter,), state)[0] for state in (p, q)))
            if behind[0] != behind[1] and behind not in numbers:
                return False
            if number < numbers.get(behind, 0) + plain_wrong(machine, p, q, (letter,), quiet):
                return False
    wrong = plain_wrong(machine, one, other, reading, quiet)
    return all(state == one or numbers.get((min(one, state), max(one, state)), wrong + 1) <= wrong
               for state in states)


def stated_harm(machine, one, thing, quiet=()):
    """Return the harm that a harm paper states."""
    return plain_wrong(machine, one, thing[1], thing[2], quiet) if thing[0] == 'most' else None


def choice_harms(machine, thing, quiet=()):
    """Return a dict of the harms of the rows of a choice paper, by the words of [59], or None if it is none."""
    rows = {(left, known): choice for left, known, choice in thing}
    if list(rows) != sorted(rows) or len(rows) != len(thing):
        return None
    harms = {}
    for (left, known), choice in rows.items():
        if known not in sets_of_states(machine):
            return None
        if choice == ():
            behind = [(left - 1, plain_set(machine, known, (letter,))) for letter in machine[0]]
            if left == 0 or any(key not in rows for key in behind):
                return None
            harms[left, known] = max([harms[key] for key in behind], key=no_bound_last)
        else:
            state, paper = choice
            if state >= len(machine[1]) or not is_harm_paper(machine, state, known, paper, quiet):
                return None
            harms[left, known] = stated_harm(machine, state, paper, quiet)
    return harms


def is_quiet_paper(machine, states, words, thing, most=0):
    """Return whether a value is a quiet paper, by the words of [60]."""
    state, paper, bars = thing
    if state >= len(machine[1]) or not is_harm_paper(machine, state, states, paper, words):
        return False
    harm = stated_harm(machine, state, paper, words)
    if harm is None or harm > most or len(bars) != len(words):
        return False
    for word, bar in zip(words, bars):
        less = tuple(name for name in words if name != word)
        if len(bar) != len(machine[1]):
            return False
        for one, (other, reading) in enumerate(bar):
            if other not in states or plain_wrong(machine, one, other, reading, less) <= most:
                return False
    return True
