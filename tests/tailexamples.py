"""Old and new machines, and slow but plain ways to compute how many letters must be kept."""

import itertools

from tests.examples import (FIRST, GAPS, LAST, LATE, LONE, NEW, OLD, THREE, made_machine, plain_parting, plain_reached,
                            plain_run, small_machines)

SILENT = (('a', 'b'), (((0, ''), (0, '')),))
# Each letter exchanges its two states.
FLIP = (('a', 'b'), (((1, 'x'), (1, '')), ((0, 'y'), (0, ''))))
# It says which of the last two letters was read first.
TWO = (('a', 'b'), (((0, 'x'), (1, 'x')), ((2, 'x'), (3, 'x')), ((0, 'y'), (1, 'y')), ((2, 'y'), (3, 'y'))))
# What is read first is said, but with the fourth letter at the latest it is over.
BRIEF = (('a', 'b'), (((1, ''), (2, '')), ((3, ''), (3, '')), ((4, ''), (4, '')), ((5, 'x'), (5, 'x')),
                      ((5, 'y'), (5, 'y')), ((5, ''), (5, ''))))
AB = (OLD, NEW, FIRST, LAST, GAPS, SILENT, FLIP, TWO, BRIEF)


def machine_pairs():
    """Yield pairs of an old and a new machine with the same letters."""
    yield from itertools.product(AB, repeat=2)
    yield from itertools.product([LATE, LONE, *small_machines()[::3]], repeat=2)
    yield THREE, THREE
    for seed in range(0, 60, 2):
        # With few words, and with none in most places, several letters are sometimes enough.
        words = ('', '', '', '', 'x')
        yield made_machine(seed, 1 + seed % 3, words=words), made_machine(seed + 1, 2 + seed % 4, words=words)
        yield made_machine(seed, 2, THREE[0], words), made_machine(seed + 1, 3, THREE[0], words)


def plain_step(versions, standing, letter):
    """Return the standing to which a letter leads."""
    return tuple(plain_run(machine, (letter,), state)[0] for machine, state in zip(versions, standing))


def plain_pairs(old, new):
    """Return the pairs of [41]."""
    return list(itertools.combinations(sorted(plain_reached((old, new))), 2))


def plain_followers(old, new, pair):
    """Return the pairs to which the letters lead a pair."""
    both = [tuple(sorted(plain_step((old, new), standing, letter) for standing in pair)) for letter in old[0]]
    return [(one, other) for one, other in both if one != other]


def plain_bad(old, new, quiet=()):
    """Return the bad pairs."""
    return [(x, y) for x, y in plain_pairs(old, new)
            if x[0] == y[0] and plain_parting(new, x[1], y[1], quiet) is not None]


def plain_least_tail(old, new, quiet=()):
    """Return the least number of letters that is enough, or None, by the words of [41]."""
    bad = set(plain_bad(old, new, quiet))
    left, many = set(plain_pairs(old, new)), 0
    while left & bad:
        more = {follower for pair in left for follower in plain_followers(old, new, pair)}
        if more == left:
            return None
        left, many = more, many + 1
    return many


def is_tail_paper(old, new, thing, quiet=()):
    """Return whether a value is a tail paper, by the words of [42]."""
    versions = (old, new)
    if thing[0] == 'enough':
        ranks = {(x, y): rank for x, y, rank in thing[1]}
        pairs = plain_pairs(old, new)
        before = {pair: [one for one in pairs if pair in plain_followers(old, new, one)] for pair in ranks}
        return (list(thing[1]) == sorted(thing[1]) and len(ranks) == len(thing[1])
                and set(plain_bad(old, new, quiet)) <= set(ranks) <= set(pairs)
                and all(one in ranks for pair in ranks for one in before[pair])
                and all(rank == max([ranks[one] + 1 for one in before[pair]], default=0)
                        for pair, rank in ranks.items()))
    _, one, other, ring, rest, reading = thing
    x, y = [tuple(plain_run(machine, past)[0] for machine in versions) for past in (one, other)]
    led = [[tuple(plain_run(machine, word, state)[0] for machine, state in zip(versions, standing))
            for standing in (x, y)] for word in (ring, rest)]
    words = [plain_run(new, reading, standing[1], quiet)[1][-1:] for standing in led[1]]
    return (thing[0] == 'never' and ring != () and led[0] == [x, y] and led[1][0][0] == led[1][1][0]
            and words[0] != words[1])
