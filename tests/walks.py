"""Walks from point to point by the steps that the program tells."""

from windowsteps.patterns import steps

from tests import oracle

LARGEST = 1000000


def may_be_handed_in(p):
    return max(map(abs, p)) <= LARGEST


def walk(m, x, z):
    """The steps from point z on, one behind another, as far as the points may be handed in."""
    while may_be_handed_in(z):
        answer = steps(m, 12, x, list(z))
        for step in oracle.pairs(answer[1:]):
            z = oracle.add(z, step)
            yield step


def way_to_the_next(m, x, z, pattern):
    """How far it is from z to the next point behind it from which the pattern's steps lead on."""
    pattern, way, window = list(pattern), (0, 0), []
    for step in walk(m, x, z):
        window.append(step)
        if len(window) > len(pattern):
            way = oracle.add(way, window.pop(0))
            if window == pattern:
                return way
    return None


def ways_between(row, k):
    """For each pattern of k steps in a row of steps: from one point that has it to the next, each way that occurs."""
    last, met, at = {}, {}, (0, 0)
    for index in range(len(row) - k + 1):
        pattern = tuple(row[index:index + k])
        if pattern in last:
            met.setdefault(pattern, set()).add(oracle.sub(at, last[pattern]))
        last[pattern] = at
        if index < len(row):
            at = oracle.add(at, row[index])
    return met
