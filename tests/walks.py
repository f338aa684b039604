"""Walks from point to point by the steps that the program tells, and points to begin at."""

from tests import oracle
from windowsteps.patterns import place, returns, steps

LARGEST = 1000000


def may_be_handed_in(p):
    return max(map(abs, p)) <= LARGEST


def walk(m, x, z):
    """The steps from point z on, one behind another, as far as the points may be handed in."""
    while may_be_handed_in(z):
        answer = steps(m, 12, x, list(z))
        for step in oracle.pairs(answer[1:]):
            z = oracle.add(z, step)
            yield step


def way_to_the_next(m, x, z, pattern):
    """How far it is from z to the next point behind it from which the pattern's steps lead on."""
    pattern, way, window = list(pattern), (0, 0), []
    for step in walk(m, x, z):
        window.append(step)
        if len(window) > len(pattern):
            way = oracle.add(way, window.pop(0))
            if window == pattern:
                return way
    return None


def ways_between(row, k):
    """For each pattern of k steps in a row of steps: from one point that has it to the next, each way that occurs."""
    last, met, at = {}, {}, (0, 0)
    for index in range(len(row) - k + 1):
        pattern = tuple(row[index:index + k])
        if pattern in last:
            met.setdefault(pattern, set()).add(oracle.sub(at, last[pattern]))
        last[pattern] = at
        if index < len(row):
            at = oracle.add(at, row[index])
    return met


def distances(m, x, pattern):
    return oracle.pairs(returns(m, x, oracle.flat(pattern))[1:])


def starts(m, x, pattern):
    """Points that have the pattern: where its place begins, and where another way could be the first to lead back."""
    span = place(m, x, oracle.flat(pattern))[1:]
    found = [tuple(span[:2])]
    for way in distances(m, x, pattern):
        found += [oracle.sub(end, oracle.partner(m, way)) for end in (span[:2], span[2:])]
    points = [oracle.partner(m, p) for p in found if oracle.inside(m, p, span)]
    return [z for z in dict.fromkeys(points) if may_be_handed_in(z)]


def point_with(m, x, b):
    """The point with b times w whose partner is the least in the window that such a point has."""
    a = -((oracle.value(m, oracle.partner(m, (0, b))) - oracle.value(m, x[:2])) // (2 * oracle.SCALE))
    return (a, b)


def points_near_and_far(m, x):
    """Points about 0 and as far from it as may be handed in, or nearly so."""
    points = [point_with(m, x, b) for b in (0, 1, -1, 700, -9000, 987654, -987654, 999990, -1000000)]
    points += [oracle.first_point(m, x)] + oracle.FAR_POINTS[m]
    return [z for z in dict.fromkeys(points) if may_be_handed_in(z) and oracle.is_point(m, z, x)]


def windows_with_points(m):
    """Windows that have points which may be handed in."""
    found = oracle.windows(m) + oracle.far_windows(m) + oracle.windows_about_far_points(m) + oracle.tight_windows(m)
    return [x for x in found if points_near_and_far(m, x)]
