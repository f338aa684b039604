"""A second way to the answers, by looking at every number in a stretch of the line.

Numbers are compared by long decimal approximations here, and points are found by trying, so that nothing
is drawn from the program that is tested.
"""

import fractions
import functools
import itertools
import math

SCALE = 10 ** 40
ROOTS = {m: math.isqrt((m * m + 4) * SCALE * SCALE) for m in (1, 2, 3, 4)}


def value(m, p):
    """Twice a and b w, scaled; close enough to tell the sign of every number that occurs."""
    return (2 * p[0] + m * p[1]) * SCALE + p[1] * ROOTS[m]


def below(m, p, q):
    return p != q and value(m, p) < value(m, q)


def add(p, q):
    return (p[0] + q[0], p[1] + q[1])


def sub(p, q):
    return (p[0] - q[0], p[1] - q[1])


def partner(m, p):
    return (p[0] + m * p[1], -p[1])


def mul(m, p, q):
    return (p[0] * q[0] + p[1] * q[1], p[0] * q[1] + p[1] * q[0] + m * p[1] * q[1])


def power(m, n):
    """w by itself n times; for n below 0, 1 divided by it."""
    found = (1, 0)
    for _ in range(abs(n)):
        a, b = found
        found = (b, a + m * b) if n > 0 else (b - m * a, a)
    return found


def inside(m, p, x):
    return not below(m, p, (x[0], x[1])) and below(m, p, (x[2], x[3]))


def is_point(m, p, x):
    return inside(m, partner(m, p), x)


@functools.lru_cache(maxsize=None)
def ways(m, reach):
    """Every number above 0 and below reach, a whole number, whose partner is less than 18 from 0."""
    found = []
    for b in range(-20, reach + 20):
        lowest = -value(m, (0, b)) // (2 * SCALE) - 1
        for a in range(lowest, lowest + reach + 3):
            way = (a, b)
            small = below(m, (-18, 0), partner(m, way)) and below(m, partner(m, way), (18, 0))
            if small and below(m, (0, 0), way) and below(m, way, (reach, 0)):
                found.append(way)
    return sorted(found, key=lambda way: value(m, way))


def points_from(m, x, z, reach):
    """Point z, and all points behind it by less than reach, in their order. (No window is longer than 18.)"""
    return [z] + [add(z, way) for way in ways(m, reach) if is_point(m, add(z, way), x)]


def first_point(m, x):
    """The point whose partner is the window's beginning."""
    return partner(m, (x[0], x[1]))


def row_of_points(m, x, z, many):
    """So many points, z first."""
    reach = 32
    points = points_from(m, x, z, reach)
    while len(points) < many:
        reach *= 2
        points = points_from(m, x, z, reach)
    return points[:many]


def steps_between(points):
    return [sub(after, before) for before, after in zip(points, points[1:])]


def starts_of_rows(m, x, ways_there):
    """The window's beginning, and every number in it from which on another of these ways leads to a point or out."""
    ends = [(x[0], x[1]), (x[2], x[3])]
    starts = [ends[0]] + [sub(end, partner(m, way)) for way in ways_there for end in ends]
    return sorted((p for p in set(starts) if inside(m, p, x)), key=lambda p: value(m, p))


def rows_of_window(m, x, k):
    """All rows of k steps that points have, in the order of their places.

    Between two starts next to one another all partners are led into the window by the same ways, so one point
    for each start is enough. No step is longer than 1 and w, for so it is in a window of length 1.
    """
    return found_rows(m, tuple(x), k)


@functools.lru_cache(maxsize=None)
def found_rows(m, x, k):
    low, high = value(m, x[:2]), value(m, x[2:])
    led = [(way, value(m, partner(m, way))) for way in ways(m, k * (m + 2) + 1)]
    led = [(way, far) for way, far in led if abs(far) < high - low]
    rows = []
    for start in starts_of_rows(m, x, [way for way, far in led]):
        at = value(m, start)
        points = itertools.islice((way for way, far in led if low <= at + far < high), k)
        row = steps_between([(0, 0)] + list(points))
        if row not in rows[-1:]:
            rows.append(row)
    return rows


def ways_aside(m, length, most):
    """Every number above 0 whose partner is less than length from 0, with most times w at most; rising.

    A number is as many times w less w's partner from its own partner as it has w. So all below the second
    number that is given back are among them.
    """
    top, found = value(m, length), []
    one, aside = 2 * SCALE, value(m, partner(m, (0, 1)))
    for b in range(-20, most + 1):
        a = (-top - b * aside) // one + 1
        while one * a + b * aside < top:
            if value(m, (a, b)) > 0:
                found.append((a, b))
            a += 1
    return sorted(found, key=lambda way: value(m, way)), 2 * (most + 1) * ROOTS[m] - top


@functools.lru_cache(maxsize=None)
def nearest_ways(m, length):
    """Each way that leads from some number of a span as long to the next one of it, as points lie; rising.

    The ways are tried one by one, each from all numbers of the span from which none before has led into it.
    """
    top, most = value(m, length), 64
    while True:
        tried, complete = ways_aside(m, length, most)
        left, found = [(0, top)], []
        for way in tried:
            if value(m, way) >= complete or not left:
                break
            far = value(m, partner(m, way))
            rest = [part for low, high in left for part in without((low, high), (-far, top - far))]
            if rest != left:
                found.append(way)
            left = rest
        if not left:
            return found
        most *= 2


def next_point(m, span, z):
    """The next point behind z, whose partner lies in the span, whose partner does so too."""
    way = next(way for way in nearest_ways(m, length(span)) if is_point(m, add(z, way), span))
    return add(z, way)


def without(part, taken):
    """The stretches of part that are left when taken is taken from it."""
    left = [(part[0], min(part[1], taken[0])), (max(part[0], taken[1]), part[1])]
    return [stretch for stretch in left if stretch[0] < stretch[1]]


def flat(numbers):
    return [whole for number in numbers for whole in number]


def pairs(values):
    """The numbers that these whole numbers tell."""
    return list(zip(values[::2], values[1::2]))


def sum_of_shares(answers):
    """What the answers of share make together, as fractions: of how many 1, and of how many w."""
    return (sum(fractions.Fraction(a, divisor) for first, a, b, divisor in answers),
            sum(fractions.Fraction(b, divisor) for first, a, b, divisor in answers))


def length(span):
    return sub(span[2:], span[:2])


def moved(x, way):
    return list(add((x[0], x[1]), way) + add((x[2], x[3]), way))


def is_length(m, length):
    """Whether a window may be as long."""
    return not below(m, length, (1, 0)) and below(m, length, (1, m))


def windows(m):
    """Windows of length 1, of lengths just below w w, and between, that lie in different places."""
    top = (1, m)
    lengths = [(1, 0), add((1, 0), power(m, -4)), (0, 1), (2, 0), (-1, 2), (1, 1), (3, 0), (0, m),
               add((1, 0), power(m, -1)), sub(top, power(m, -1)), sub(top, power(m, -3)), sub(top, power(m, -7)),
               sub(top, (1, 0)), (2 * m, 0), (m * m, 0), (m, m // 2)]
    begins = [(0, 0), (-1, 0), (0, -1), (7, -3), (-1000, 618), (3, 11)]
    fitting = [length for length in dict.fromkeys(lengths) if is_length(m, length)]
    return [list(begins[(at + shift) % 6] + add(begins[(at + shift) % 6], length))
            for at, length in enumerate(fitting) for shift in (0, 3)]


def windows_of_all_lengths(m):
    """A window of every length whose two whole numbers are small."""
    lengths = [(a, b) for a in range(-30, 31) for b in range(-30, 31) if is_length(m, (a, b))]
    return [[-3, 2, a - 3, b + 2] for a, b in lengths]


def far_windows(m):
    """Windows told by numbers as large as may be handed in, or nearly so."""
    # Of length 1 and of length w, as far out as may be.
    found = [[999999, 1000000, 1000000, 1000000], [999999, -1000000, 1000000, -1000000],
             [-1000000, 1000000, -999999, 1000000], [-1000000, -1000000, -999999, -1000000],
             [1000000, 999999, 1000000, 1000000], [1000000, -1000000, 1000000, -999999],
             [-1000000, 999999, -1000000, 1000000], [-1000000, -1000000, -1000000, -999999]]
    # From one bound to the other, with every count of w that makes a window of it.
    for a in (1000000, -1000000):
        nearest = -2 * a * 2 * SCALE // value(m, (0, 1))
        for b in range(nearest - m - 3, nearest + m + 4):
            if is_length(m, (2 * a, b)):
                found.append([-a, -(b // 2), a, b - b // 2])
    # By a hair longer than 1, and by a hair shorter than w w.
    hair = power(m, -max(n for n in range(40) if max(map(abs, power(m, -n))) < 999990))
    return found + [[0, 0] + list(length) for length in (add((1, 0), hair), sub((1, m), hair))]


def tight_windows(m):
    """Windows told by large numbers in which some step's place is as short as may be, or nearly so.

    They are told from one bound to the other, so that their length may be told by numbers beyond the bound.
    """
    found = []
    # The second hair isn't as short, but has three steps where the first has two.
    for times in (1, 2):
        hairs = [mul(m, power(m, -n), (times, 0)) for n in range(50)]
        hair = [p for p in hairs if max(map(abs, p)) < 1999900][-1]
        for length in (add((1, 0), hair), sub((1, m), hair)):
            begin = (-(length[0] // 2), -(length[1] // 2))
            found.append(list(begin + add(begin, length)))
    return found


MOVES = ((1, 0), (-5, 3), (900, -555), (0, 100000), (-700000, 2))


def all_windows():
    return [(m, x) for m in (1, 2, 3, 4) for x in windows(m) + far_windows(m)]


def most_windows():
    """Those too that are slow to try."""
    return all_windows() + [(m, x) for m in (1, 2, 3, 4) for x in tight_windows(m)]


# For each m points whose own numbers and whose partners' are as large as may be, or nearly so.
FAR_POINTS = {1: [(0, 1000000), (1000000, -1000000)], 2: [(-1000000, 1000000), (1000000, -1000000)],
              3: [(1000000, -666666), (-1000000, 666666)], 4: [(1000000, -500000), (-1000000, 500000)]}


def windows_about_far_points(m):
    """Windows as far out as may be that have points which may be handed in."""
    found = []
    for z in FAR_POINTS[m]:
        u = partner(m, z)
        for size in ((1, 0), (0, 1), sub((1, m), power(m, -2))):
            found += [list(begin + add(begin, size)) for begin in (u, sub(u, (1, 0)), sub(u, size))]
    return [x for x in found if max(map(abs, x)) <= 1000000]
