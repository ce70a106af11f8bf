"""Lines in which a piece is replaced, and slow but plain ways to compute what can be said of them."""

from tests.examples import (ALL, COUNT, FIRST, GAPS, LAST, NEW, OLD, ONCE, made_machine, plain_line, plain_line_run,
                            standings_of)

AB, XY = ('a', 'b'), ('x', 'y')
HEARS = (XY, (((1, 'a'), (0, '')), ((0, 'b'), (1, 'a'))))
DEAF = (XY, (((1, ''), (0, 'a')), ((1, 'b'), (0, ''))))
# It says a name that no machine here reads, in a state that is not reached.
LOUD = (AB, (((0, ''), (0, 'x')), ((0, 'loud'), (0, ''))))


def joint(pieces, line):
    """Return all pairs of standings to which one past leads both lines."""
    found = {((0,) * len(pieces), (0,) * len(line))}
    while True:
        more = {(plain_line(pieces, one, letter)[0], plain_line(line, other, letter)[0])
                for one, other in found for letter in pieces[0][0]} | found
        if more == found:
            return found
        found = more


def unlike_standings(line, quiet):
    """Return all pairs of standings of a line that are not alike."""
    standings = standings_of(line)
    after = {(one, letter): plain_line(line, one, letter) for one in standings for letter in line[0][0]}
    after = {key: (standing, '' if word in quiet else word) for key, (standing, word) in after.items()}
    unlike = set()
    while True:
        more = {(one, other) for one in standings for other in standings for letter in line[0][0]
                if after[one, letter][1] != after[other, letter][1]
                or (after[one, letter][0], after[other, letter][0]) in unlike}
        if more == unlike:
            return unlike
        unlike = more


def plain_places(pieces, index, new, states, free, quiet, wanted):
    """Return all settings, by the words of [44]."""
    line = (*pieces[:index], new, *pieces[index + 1:])
    unlike = unlike_standings(line, quiet)
    places = []
    for setting in standings_of([new, *[pieces[at] for at in free]]):
        standing = list(states)
        for at, state in zip((index, *free), setting):
            standing[at] = state
        if not any((tuple(standing), one) in unlike for one in wanted):
            places.append(setting)
    return tuple(places)


def cases():
    """Yield lines with a piece to replace, its index, and the machine that takes its place."""
    yield (ONCE, ALL), 1, COUNT
    yield (ONCE, COUNT), 1, ALL
    yield (ONCE, COUNT), 0, (AB, (((0, 'go'), (1, '')), ((1, ''), (0, 'go'))))
    yield (LAST, HEARS, NEW), 1, DEAF
    yield (LAST, HEARS, NEW), 2, FIRST
    yield (LAST, HEARS, NEW), 0, FIRST
    yield (FIRST, HEARS, OLD), 1, HEARS
    yield (OLD,), 0, NEW
    yield (NEW,), 0, OLD
    yield (GAPS,), 0, LOUD
    for seed in range(0, 24, 3):
        first = made_machine(seed, 3, AB, ('', 'x', 'y'))
        second = made_machine(seed + 1, 2, XY, ('', 'a'))
        third = made_machine(seed + 2, 2, AB, ('', 'a', 'x'))
        yield (first, second, third), 0, made_machine(seed + 50, 2, AB, ('x', 'y'))
        yield (first, second, third), 1, made_machine(seed + 51, 3, XY, ('', 'b'))
        yield (first, second, third), 2, made_machine(seed + 52, 3, AB, ('', 'x'))


def plain_set_standing(index, states, free, setting):
    """Return the set standing of a setting."""
    standing = list(states)
    for at, state in zip((index, *free), setting):
        standing[at] = state
    return tuple(standing)


def in_order(one, other):
    """Return both, the lesser one first."""
    return (one, other) if one < other else (other, one)


def says_alike(line, one, other, pairs, quiet):
    """Return whether each letter says the same from both, and leads to equal standings or to one of the pairs."""
    for letter in line[0][0]:
        (one_next, one_word), (other_next, other_word) = plain_line(line, one, letter), plain_line(line, other, letter)
        if one_word != other_word and not (one_word in (*quiet, '') and other_word in (*quiet, '')):
            return False
        if one_next != other_next and in_order(one_next, other_next) not in pairs:
            return False
    return True


def is_line_paper(case, thing, free=(), quiet=()):
    """Return whether a value is a line paper, by the words of [45]; case has the other arguments of line_paper."""
    pieces, index, new, states, setting = case
    line = (*pieces[:index], new, *pieces[index + 1:])
    start = plain_set_standing(index, states, free, setting)
    zeros = (0,) * len(pieces)
    if thing[0] == 'wrong':
        _, past, reading = thing
        end = plain_line_run(line, zeros, past)[0]
        words = [plain_line_run(line, standing, reading)[1][-1:] for standing in (start, end)]
        words = [['' if word in quiet else word for word in said] for said in words]
        return plain_line_run(pieces, zeros, past)[0] == states and words[0] != words[1]
    pairs = thing[1]
    ends = [other for one, other in joint(pieces, line) if one == states]
    return (thing[0] == 'true' and len(thing) == 2 and list(pairs) == sorted(set(pairs))
            and all(one < other for one, other in pairs)
            and all(end == start or in_order(end, start) in pairs for end in ends)
            and all(says_alike(line, one, other, pairs, quiet) for one, other in pairs))


def settings_of(many_states):
    """Yield each case with a setting that cases() has, with none and with one free piece, and its free pieces.

    At most so many line standings are taken for each line.
    """
    for pieces, index, new in cases():
        reached = sorted({one for one, _ in joint(pieces, (*pieces[:index], new, *pieces[index + 1:]))})
        for free in ((), *[(at,) for at in range(len(pieces)) if at != index]):
            for states in reached[:many_states]:
                for setting in standings_of([new, *[pieces[at] for at in free]]):
                    yield (pieces, index, new, states, setting), free
