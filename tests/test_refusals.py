"""The refusals of each call, alone and several at once (point 1), and the last paragraph of the interface."""

import contextlib
import copy
import inspect
import io
import itertools
import unittest

from tests import oracle
from windowsteps.patterns import again, alike, many, patterns, place, returns, share, steps

WRONG_M = [0, 5, 6, 4294967295]
WRONG_X = [
    [], [0], [0, 0], [0, 0, 1], [0, 0, 1, 0, 0], [0, 0, 1, 0, 0, 0, 1, 0], [0] * 40,
    [1000001, 0, 1000002, 0], [1000000, 0, 1000001, 0], [-1000001, 0, -1000000, 0], [0, 1000001, 1, 1000001],
    [0, -1000001, 1, -1000001], [0, 1000000, 0, 1000001], [2147483646, 0, 2147483647, 0],
    [-2147483647, 0, -2147483646, 0],
    [0, 0, 0, 0], [1, 0, 0, 0], [0, 1, 0, 0], [5, 5, 5, 5], [0, 0, 1000000, 0], [0, 0, -1000000, 0],
    [0, 0, 1000000, 1000000],
]
WRONG_L = [
    [1], [1, 0, 0], [1] * 25, [1] * 27, [0] * 39,
    [1000001, 0], [0, 1000001], [-1000001, 0], [0, -1000001], [1, 0, 2147483647, 0], [1, 0, 0, -2147483647],
    [1, 1] * 12 + [1000001, 1],
]
WRONG_Z = [
    [], [0], [0, 0, 0], [0, 0, 0, 0], [0] * 40,
    [1000001, 0], [-1000001, 0], [0, 1000001], [0, -1000001], [2147483647, 0], [0, -2147483647],
]
LONG_L = [[1, 0] * 13, [0, 1, 1, 0] * 10, [0] * 26, [1000000, -1000000] * 20]
LARGE_K = [13, 14, 40, 4294967295]
# Too many steps to be listed, not too many to be counted.
MIDDLE_K = [7, 8, 12]
# For m = 1 the window from 0 to 1 has the steps w, never twice in a row, and 1 and w, never three times in a row.
NO_PATTERN = [[0, 0], [1, 0], [0, -1], [1, 2], [1000000, 1000000], [0, 1] * 2, [0, 1] * 12, [1, 1] * 3, [1, 1] * 12]
NO_POINT = [[1, 0], [-1, 0], [0, 1], [0, -2], [1000000, 1000000], [-1000000, 0]]

GOOD_X = [0, 0, 1, 0]
GOOD_L = [0, 1]
GOOD_Z = [0, 0]


def too_long_windows(m):
    hair = oracle.power(m, -5)
    top = (1, m)
    return [[0, 0] + list(length) for length in (top, oracle.add(top, hair), (1, m + 1), (20, 0))]


def too_short_windows(m):
    return [[0, 0] + list(length) for length in (oracle.sub((1, 0), oracle.power(m, -6)), oracle.power(m, -9), (-m, 1))]


def right_windows(m):
    """Windows of length 1, just below w w, and between; the last of them far out. Each begins at a point's partner."""
    lengths = [(1, 0), (2, 0), oracle.sub((1, m), oracle.power(m, -6)), (1, 0)]
    begins = [(0, 0), (-5, 3), (40, -7), (-1000000, min(1000000, 2000000 // m))]
    return [list(begin + oracle.add(begin, length)) for begin, length in zip(begins, lengths)]


def known_steps(m, x):
    return [row[0] for row in oracle.rows_of_window(m, x, 1)]


def orders_that_no_point_has(m, x):
    """Steps that there are, two to four in a row and twelve of them, in an order that no point has."""
    found = []
    for k in (2, 3, 4):
        rows = [list(row) for row in itertools.product(known_steps(m, x), repeat=k)]
        found += [oracle.flat(row) for row in rows if row not in oracle.rows_of_window(m, x, k)]
    twelve = oracle.rows_of_window(m, x, 12)
    swapped = [row[:11] + [step] for row in twelve for step in known_steps(m, x)]
    return found + [oracle.flat(row) for row in swapped if row not in twelve][:3]


def steps_that_there_are_not(m, x):
    strange = [(0, 0), (-1, 0), (0, -1), (20, 0), (1000000, 1000000), (-1000000, 1000000), (1000000, -1000000)]
    known = known_steps(m, x)
    negative = [(-a, -b) for a, b in known]
    together = [oracle.add(known[0], known[0])]
    found = [step for step in strange + negative + together if step not in known]
    return [oracle.flat(row) for step in found for row in ([step], [known[0], step], [step] + [known[-1]] * 11)]


def no_points(m, x):
    """Numbers that are not points of the window, the first of them by a hair."""
    hair = oracle.power(m, -5)
    partners = [x[2:], oracle.sub(x[:2], hair), oracle.sub(x[:2], (1, 0)), oracle.add(x[2:], (17, 0))]
    found = [list(oracle.partner(m, p)) for p in partners]
    return [z for z in found + [[1000000, 1000000], [-1000000, -1000000]] if max(map(abs, z)) <= 1000000]


def points_of_each_step(m, x):
    """For each step a point that has it, as far as it may be handed in."""
    points = oracle.row_of_points(m, x, oracle.first_point(m, x), 200)
    found = {}
    for z, step in zip(points, oracle.steps_between(points)):
        if max(map(abs, z)) <= 1000000:
            found.setdefault(step, z)
    return found


class PlaceAlone(unittest.TestCase):
    def test_m(self):
        for m in WRONG_M:
            self.assertEqual(place(m, GOOD_X, GOOD_L), [-22], m)
            self.assertEqual(place(m, GOOD_X, []), [-22], m)

    def test_x(self):
        for m in (1, 2, 3, 4):
            for x in WRONG_X + too_long_windows(m) + too_short_windows(m):
                self.assertEqual(place(m, x, GOOD_L), [-22], (m, x))
                self.assertEqual(place(m, x, []), [-22], (m, x))

    def test_a_window_depends_on_m(self):
        self.assertEqual(place(1, [0, 0, 3, 0], []), [-22])
        self.assertEqual(place(2, [0, 0, 3, 0], []), [0, 0, 0, 3, 0])
        self.assertEqual(place(3, [0, 0, 17, 0], []), [-22])
        self.assertEqual(place(4, [0, 0, 17, 0], []), [0, 0, 0, 17, 0])

    def test_l(self):
        for l in WRONG_L:
            self.assertEqual(place(1, GOOD_X, l), [-22], l)

    def test_l_of_more_than_twelve_steps(self):
        for l in LONG_L:
            self.assertEqual(place(1, GOOD_X, l), [-28], l)

    def test_a_pattern_of_thirteen_steps_that_points_have(self):
        first = steps(1, 12, GOOD_X, GOOD_Z)[1:]
        self.assertEqual(place(1, GOOD_X, first)[0], 0)
        self.assertEqual(place(1, GOOD_X, first + [0, 1]), [-28])
        self.assertEqual(place(1, GOOD_X, first + [1, 1]), [-28])

    def test_a_pattern_that_no_point_has(self):
        for l in NO_PATTERN:
            self.assertEqual(place(1, GOOD_X, l), [-33], l)


class StepsAlone(unittest.TestCase):
    def test_m(self):
        for m in WRONG_M:
            self.assertEqual(steps(m, 1, GOOD_X, GOOD_Z), [-22], m)
            self.assertEqual(steps(m, 0, GOOD_X, GOOD_Z), [-22], m)

    def test_x(self):
        for m in (1, 2, 3, 4):
            for x in WRONG_X + too_long_windows(m) + too_short_windows(m):
                self.assertEqual(steps(m, 1, x, GOOD_Z), [-22], (m, x))
                self.assertEqual(steps(m, 0, x, GOOD_Z), [-22], (m, x))

    def test_z(self):
        for z in WRONG_Z:
            self.assertEqual(steps(1, 1, GOOD_X, z), [-22], z)
            self.assertEqual(steps(1, 0, GOOD_X, z), [-22], z)

    def test_k(self):
        for k in LARGE_K:
            self.assertEqual(steps(1, k, GOOD_X, GOOD_Z), [-28], k)
        self.assertEqual(len(steps(1, 12, GOOD_X, GOOD_Z)), 25)

    def test_z_that_is_no_point(self):
        for z in NO_POINT:
            self.assertEqual(steps(1, 1, GOOD_X, z), [-2], z)
            self.assertEqual(steps(1, 0, GOOD_X, z), [-2], z)


class PatternsAndManyAlone(unittest.TestCase):
    def test_m(self):
        for call, m, k in itertools.product((patterns, many), WRONG_M, (0, 1, 6)):
            for x in (GOOD_X, [0, 0, 2, 0], [-1, 0, 0, 0]):
                self.assertEqual(call(m, k, x), [-22], (call, m, k, x))

    def test_x(self):
        for call, m, k in itertools.product((patterns, many), (1, 2, 3, 4), (0, 1, 6)):
            for x in WRONG_X + too_long_windows(m) + too_short_windows(m):
                self.assertEqual(call(m, k, x), [-22], (call, m, k, x))

    def test_a_window_depends_on_m(self):
        for call in (patterns, many):
            self.assertEqual([call(m, 0, [0, 0, 3, 0]) for m in (1, 2, 3, 4)], [[-22], [1], [1], [1]])
            self.assertEqual([call(m, 0, [0, 0, 17, 0]) for m in (1, 2, 3, 4)], [[-22], [-22], [-22], [1]])

    def test_a_window_by_a_hair(self):
        for call, m in itertools.product((patterns, many), (1, 2, 3, 4)):
            hair = oracle.power(m, -9)
            for length, held in (((1, 0), True), (oracle.sub((1, 0), hair), False), ((1, m), False),
                                 (oracle.sub((1, m), hair), True)):
                self.assertEqual(call(m, 0, [0, 0] + list(length)), [1] if held else [-22], (call, m, length))

    def test_k(self):
        for m in (1, 2, 3, 4):
            for k in LARGE_K:
                self.assertEqual(patterns(m, k, GOOD_X), [-28], (m, k))
                self.assertEqual(many(m, k, GOOD_X), [-28], (m, k))
            for k in MIDDLE_K:
                self.assertEqual(patterns(m, k, GOOD_X), [-28], (m, k))
                self.assertEqual(many(m, k, GOOD_X), [k + 1], (m, k))
            self.assertEqual(patterns(m, 6, GOOD_X)[0], 7)


class ShareAndReturnsAlone(unittest.TestCase):
    CALLS = (share, returns)

    def test_m(self):
        for call, m in itertools.product(self.CALLS, WRONG_M):
            for x in (GOOD_X, [0, 0, 2, 0], [-1, 0, 0, 0]):
                for l in ([], GOOD_L, [0, 1, 1, 1]):
                    self.assertEqual(call(m, x, l), [-22], (call, m, x, l))

    def test_x(self):
        for call, m in itertools.product(self.CALLS, (1, 2, 3, 4)):
            for x in WRONG_X + too_long_windows(m) + too_short_windows(m):
                for l in ([], GOOD_L, [0, 1, 1, 1]):
                    self.assertEqual(call(m, x, l), [-22], (call, m, x, l))

    def test_a_window_depends_on_m(self):
        for call, first in ((share, 0), (returns, 3)):
            self.assertEqual([call(m, [0, 0, 3, 0], [])[0] for m in (1, 2, 3, 4)], [-22, first, first, first])
            self.assertEqual([call(m, [0, 0, 17, 0], [])[0] for m in (1, 2, 3, 4)], [-22, -22, -22, first])

    def test_a_window_by_a_hair(self):
        for call, m in itertools.product(self.CALLS, (1, 2, 3, 4)):
            hair = oracle.power(m, -9)
            for length, held in (((1, 0), True), (oracle.sub((1, 0), hair), False), ((1, m), False),
                                 (oracle.sub((1, m), hair), True)):
                self.assertEqual(call(m, [0, 0] + list(length), []) != [-22], held, (call, m, length))

    def test_l(self):
        for call, m, l in itertools.product(self.CALLS, (1, 2, 3, 4), WRONG_L):
            for x in right_windows(m):
                self.assertEqual(call(m, x, l), [-22], (call, m, x, l))

    def test_l_of_more_than_twelve_steps(self):
        for call, m in itertools.product(self.CALLS, (1, 2, 3, 4)):
            for x in right_windows(m):
                had = [oracle.flat(oracle.rows_of_window(m, x, 12)[0]) + list(step) for step in known_steps(m, x)]
                twenty = [oracle.flat(oracle.rows_of_window(m, x, 10)[0]) * 2]
                for l in LONG_L + had + twenty:
                    self.assertEqual(call(m, x, l), [-28], (call, m, x, l))

    def test_a_pattern_that_no_point_has(self):
        for call, m in itertools.product(self.CALLS, (1, 2, 3, 4)):
            for x in right_windows(m):
                disordered = orders_that_no_point_has(m, x)
                self.assertGreater(len(disordered), 3)
                for l in disordered + steps_that_there_are_not(m, x):
                    self.assertEqual(call(m, x, l), [-33], (call, m, x, l))

    def test_a_pattern_that_would_be_had_at_a_single_end_alone(self):
        # w, then 1, then 1 meet in the one number w less 1 at most, which is no stretch.
        for call in self.CALLS:
            self.assertEqual(call(1, [0, 0, 0, 1], [0, 1, 1, 0, 1, 0]), [-33])
            self.assertEqual(call(1, [0, 0, 0, 1], [1, 1]), [-33])


class AgainAlone(unittest.TestCase):
    def setUp(self):
        self.right = [(m, x, list(oracle.first_point(m, x))) for m in (1, 2, 3, 4) for x in right_windows(m)]

    def test_nothing_wrong(self):
        for m, x, z in self.right:
            for k in (0, 1, 12):
                answer = again(m, x, z, steps(m, k, x, z)[1:])
                self.assertEqual([len(answer), answer[0]], [3, 0], (m, x, z))

    def test_m(self):
        for m, (right, x, z) in itertools.product(WRONG_M, self.right):
            self.assertEqual(again(m, x, z, []), [-22], (m, x, z))
            self.assertEqual(again(m, x, z, steps(right, 3, x, z)[1:]), [-22], (m, x, z))

    def test_x(self):
        for m in (1, 2, 3, 4):
            for x in WRONG_X + too_long_windows(m) + too_short_windows(m):
                for l in ([], [1, 1]):
                    self.assertEqual(again(m, x, [0, 0], l), [-22], (m, x, l))

    def test_z(self):
        for (m, x, right), z in itertools.product(self.right, WRONG_Z):
            self.assertEqual(again(m, x, z, []), [-22], (m, x, z))
            self.assertEqual(again(m, x, z, steps(m, 3, x, right)[1:]), [-22], (m, x, z))

    def test_l(self):
        for (m, x, z), l in itertools.product(self.right, WRONG_L):
            self.assertEqual(again(m, x, z, l), [-22], (m, x, z, l))

    def test_l_of_more_than_twelve_steps(self):
        for m, x, z in self.right:
            had = steps(m, 12, x, z)[1:]
            for l in LONG_L + [had + list(step) for step in known_steps(m, x)] + [had[:20] * 2]:
                self.assertEqual(again(m, x, z, l), [-28], (m, x, z, l))

    def test_a_pattern_that_no_point_has(self):
        for m, x, z in self.right:
            for l in orders_that_no_point_has(m, x) + steps_that_there_are_not(m, x):
                self.assertEqual(again(m, x, z, l), [-33], (m, x, z, l))

    def test_z_that_is_no_point(self):
        for m, x, right in self.right:
            for z in no_points(m, x):
                self.assertEqual(again(m, x, z, []), [-2], (m, x, z))
                for k in (1, 12):
                    self.assertEqual(again(m, x, z, steps(m, k, x, right)[1:]), [-2], (m, x, z, k))

    def test_z_without_the_pattern(self):
        tried = 0
        for m, x, right in self.right:
            for step, z in points_of_each_step(m, x).items():
                for k in range(1, 13):
                    for pattern in oracle.rows_of_window(m, x, k):
                        if pattern[0] != step:
                            tried += 1
                            self.assertEqual(again(m, x, list(z), oracle.flat(pattern)), [-2], (m, x, z, pattern))
        self.assertGreater(tried, 1000)


class AlikeAlone(unittest.TestCase):
    def setUp(self):
        self.right = [(m, x, list(oracle.first_point(m, x))) for m in (1, 2, 3, 4) for x in right_windows(m)]

    def test_m(self):
        for m, (right, x, z), k in itertools.product(WRONG_M, self.right, (0, 1, 12)):
            self.assertEqual(alike(m, k, x, z, z), [-22], (m, k, x, z))

    def test_x(self):
        for m, k in itertools.product((1, 2, 3, 4), (0, 1, 12)):
            for x in WRONG_X + too_long_windows(m) + too_short_windows(m):
                self.assertEqual(alike(m, k, x, [0, 0], [0, 0]), [-22], (m, k, x))

    def test_z_and_y(self):
        for (m, x, right), wrong, k in itertools.product(self.right, WRONG_Z, (0, 1, 12)):
            for z, y in ((wrong, right), (right, wrong), (wrong, wrong)):
                self.assertEqual(alike(m, k, x, z, y), [-22], (m, k, x, z, y))

    def test_k(self):
        for (m, x, z), k in itertools.product(self.right, LARGE_K):
            self.assertEqual(alike(m, k, x, z, z), [-28], (m, k, x, z))
        for (m, x, z), k in itertools.product(self.right, range(13)):
            self.assertEqual(alike(m, k, x, z, z), [1], (m, k, x, z))

    def test_z_or_y_that_is_no_point(self):
        for (m, x, right), k in itertools.product(self.right, (0, 1, 12)):
            for wrong in no_points(m, x):
                for z, y in ((wrong, right), (right, wrong), (wrong, wrong)):
                    self.assertEqual(alike(m, k, x, z, y), [-2], (m, k, x, z, y))


class SeveralAtOnce(unittest.TestCase):
    """Every choice of a right or a wrong thing in each place; the first refusal that is due is answered."""

    def test_place(self):
        ms = [(0, 1)] + [(-22, m) for m in WRONG_M]
        xs = [(0, GOOD_X)] + [(-22, x) for x in WRONG_X]
        ls = [(0, GOOD_L)] + [(-22, l) for l in WRONG_L] + [(-28, l) for l in LONG_L] + [(-33, l) for l in NO_PATTERN]
        for (r1, m), (r2, x), (r3, l) in itertools.product(ms, xs, ls):
            due = first_due([r1, r2, r3])
            answer = place(m, x, l)
            self.assertEqual(answer if due else answer[0], [due] if due else 0, (m, x, l))

    def test_share_and_returns(self):
        for right_m in (1, 2, 3, 4):
            ms = [(0, right_m)] + [(-22, m) for m in WRONG_M]
            wrong_x = WRONG_X + too_long_windows(right_m) + too_short_windows(right_m)
            for right_x in right_windows(right_m):
                xs = [(0, right_x)] + [(-22, x) for x in wrong_x]
                unknown = orders_that_no_point_has(right_m, right_x)[-4:]
                unknown += steps_that_there_are_not(right_m, right_x)[:6]
                ls = [(0, []), (0, list(known_steps(right_m, right_x)[0]))] + [(-22, l) for l in WRONG_L]
                ls += [(-28, l) for l in LONG_L] + [(-33, l) for l in unknown]
                for (r1, m), (r2, x), (r3, l) in itertools.product(ms, xs, ls):
                    due = first_due([r1, r2, r3])
                    for call, rights in ((share, (0,)), (returns, (2, 3))):
                        answer = call(m, x, l)
                        if due:
                            self.assertEqual(answer, [due], (call, m, x, l))
                        else:
                            self.assertIn(answer[0], rights, (call, m, x, l))

    def test_again(self):
        for right_m in (1, 2, 3, 4):
            ms = [(0, right_m)] + [(-22, m) for m in WRONG_M]
            wrong_x = WRONG_X[::3] + too_long_windows(right_m)[:2] + too_short_windows(right_m)[:2]
            for right_x in right_windows(right_m):
                has = points_of_each_step(right_m, right_x)
                step = min(has)
                xs = [(0, right_x)] + [(-22, x) for x in wrong_x]
                zs = [(0, list(has[step]))] + [(-2, list(z)) for other, z in has.items() if other != step]
                zs += [(-2, z) for z in no_points(right_m, right_x)] + [(-22, z) for z in WRONG_Z]
                unknown = orders_that_no_point_has(right_m, right_x)[-2:]
                unknown += steps_that_there_are_not(right_m, right_x)[:3]
                ls = [(0, list(step))] + [(-22, l) for l in WRONG_L[::2] + WRONG_L[-1:]]
                ls += [(-28, l) for l in LONG_L] + [(-33, l) for l in unknown]
                for (r1, m), (r2, x), (r3, z), (r4, l) in itertools.product(ms, xs, zs, ls):
                    due = first_due([r1, r2, r3, r4])
                    answer = again(m, x, z, l)
                    self.assertEqual(answer if due else answer[0], [due] if due else 0, (m, x, z, l))

    def test_alike(self):
        for right_m in (1, 2, 3, 4):
            ms = [(0, right_m)] + [(-22, m) for m in WRONG_M]
            ks = [(0, 0), (0, 12), (-28, 13), (-28, 4294967295)]
            wrong_x = WRONG_X[::4] + too_long_windows(right_m)[:1] + too_short_windows(right_m)[:1]
            for right_x in right_windows(right_m):
                xs = [(0, right_x)] + [(-22, x) for x in wrong_x]
                zs = [(0, list(oracle.first_point(right_m, right_x)))] + [(-22, z) for z in WRONG_Z[::2] + WRONG_Z[-2:]]
                zs += [(-2, z) for z in no_points(right_m, right_x)]
                for (r1, m), (r2, k), (r3, x), (r4, z), (r5, y) in itertools.product(ms, ks, xs, zs, zs):
                    due = first_due([r1, r2, r3, r4, r5])
                    self.assertEqual(alike(m, k, x, z, y), [due] if due else [1], (m, k, x, z, y))

    def test_steps(self):
        ms = [(0, 1)] + [(-22, m) for m in WRONG_M]
        ks = [(0, 0), (0, 12)] + [(-28, k) for k in LARGE_K]
        xs = [(0, GOOD_X)] + [(-22, x) for x in WRONG_X]
        zs = [(0, GOOD_Z)] + [(-22, z) for z in WRONG_Z] + [(-2, z) for z in NO_POINT]
        for (r1, m), (r2, k), (r3, x), (r4, z) in itertools.product(ms, ks, xs, zs):
            due = first_due([r1, r2, r3, r4])
            answer = steps(m, k, x, z)
            self.assertEqual(answer if due else answer[0], [due] if due else k, (m, k, x, z))

    def test_patterns_and_many(self):
        # GOOD_X has two steps, so k and 1 patterns, whatever m is.
        for right_m in (1, 2, 3, 4):
            ms = [(0, right_m)] + [(-22, m) for m in WRONG_M]
            wrong_x = WRONG_X + too_long_windows(right_m) + too_short_windows(right_m)
            xs = [(0, GOOD_X)] + [(-22, x) for x in wrong_x]
            small = [(0, k) for k in (0, 1, 6)]
            large = [(-28, k) for k in LARGE_K]
            for call, refusal in ((patterns, -28), (many, 0)):
                ks = small + [(refusal, k) for k in MIDDLE_K] + large
                for (r1, m), (r2, k), (r3, x) in itertools.product(ms, ks, xs):
                    due = first_due([r1, r2, r3])
                    answer = call(m, k, x)
                    self.assertEqual(answer if due else answer[0], [due] if due else k + 1, (call, m, k, x))


def first_due(refusals):
    for refusal in (-22, -28, -33, -2):
        if refusal in refusals:
            return refusal
    return 0


class WhatIsHandedIn(unittest.TestCase):
    CALLS = [
        (place, (1, [0, 0, 2, 0], [1, 0, 0, 1])), (place, (3, [7, -3, 9, -3], [])), (place, (1, [0, 0, 1, 0], [1, 0])),
        (place, (2, [0, 0, 1, 0], [1])), (place, (2, [0, 0, 1, 0], [1, 0] * 13)),
        (steps, (1, 12, [0, 0, 2, 0], [0, 0])), (steps, (4, 12, [0, 0, 17, 0], [0, 0])),
        (steps, (2, 0, [0, 0, 1, 0], [0, 0])),
        (steps, (2, 13, [0, 0, 1, 0], [0, 0])), (steps, (2, 3, [0, 0, 1, 0], [1, 0])),
        (steps, (9, 3, [0, 0, 1, 0], [1, 0])),
        (patterns, (1, 6, [0, 0, 2, 0])), (patterns, (4, 6, [0, 0, 17, 0])), (patterns, (2, 0, [0, 0, 1, 0])),
        (patterns, (2, 7, [0, 0, 1, 0])), (patterns, (2, 3, [0, 0, 1])), (patterns, (0, 3, [0, 0, 1, 0])),
        (many, (1, 12, [0, 0, 2, 0])), (many, (4, 12, [0, 0, 17, 0])), (many, (2, 0, [0, 0, 1, 0])),
        (many, (2, 13, [0, 0, 1, 0])), (many, (2, 3, [0, 0, 1])), (many, (0, 3, [0, 0, 1, 0])),
        (share, (1, [0, 0, 2, 0], [1, 0, 0, 1])), (share, (3, [7, -3, 9, -3], [])), (share, (1, [0, 0, 1, 0], [1, 0])),
        (share, (2, [0, 0, 1, 0], [1])), (share, (2, [0, 0, 1, 0], [1, 0] * 13)), (share, (2, [0, 0, 1], [0, 1])),
        (share, (1, [-673135, 416020, 673135, -416020], [1, 0])), (share, (0, [0, 0, 1, 0], [0, 1])),
        (returns, (1, [0, 0, 2, 0], [1, 0, 0, 1])), (returns, (3, [7, -3, 9, -3], [])),
        (returns, (1, [0, 0, 1, 0], [1, 0])), (returns, (2, [0, 0, 1, 0], [1])),
        (returns, (2, [0, 0, 1, 0], [1, 0] * 13)), (returns, (2, [0, 0, 1], [0, 1])),
        (returns, (1, [-673135, 416020, 673135, -416020], [1, 0])), (returns, (0, [0, 0, 1, 0], [0, 1])),
        (again, (1, [0, 0, 2, 0], [0, 0], [1, 0, 0, 1])), (again, (4, [0, 0, 17, 0], [0, 0], [])),
        (again, (1, [0, 0, 0, 1], [0, 0], [0, 1])), (again, (1, [0, 0, 0, 1], [5, 0], [0, 1])),
        (again, (1, [0, 0, 0, 1], [0, 0], [1, 0, 1, 0])), (again, (1, [0, 0, 0, 1], [0, 0], [0, 1] * 13)),
        (again, (1, [0, 0, 0, 1], [0, 0], [0])), (again, (1, [0, 0, 0, 1], [0], [])),
        (again, (5, [0, 0, 0, 1], [0, 0], [])),
        (alike, (1, 12, [0, 0, 0, 1], [0, 0], [5, 8])), (alike, (1, 12, [0, 0, 0, 1], [0, 0], [2, 3])),
        (alike, (3, 0, [0, 0, 1, 0], [0, 0], [1, 1])), (alike, (3, 13, [0, 0, 1, 0], [0, 0], [1, 1])),
        (alike, (3, 1, [0, 0, 1, 0], [0, 0], [5, 0])), (alike, (3, 1, [0, 0, 1, 0], [5, 0], [0, 0])),
        (alike, (3, 1, [0, 0, 1, 0], [], [0, 0])), (alike, (3, 1, [0, 0, 1], [0, 0], [0, 0])),
    ]

    def test_lists_are_as_they_were(self):
        for call, handed in self.CALLS:
            kept = copy.deepcopy(handed)
            call(*handed)
            self.assertEqual(handed, kept)

    def test_lists_are_not_changed_for_a_while_either(self):
        class Still(list):
            def refuse(self, *others):
                raise AssertionError("a list that was handed in is changed")
            append = extend = insert = pop = remove = clear = sort = reverse = refuse
            __setitem__ = __delitem__ = __iadd__ = __imul__ = refuse
        for call, handed in self.CALLS:
            still = [Still(value) if isinstance(value, list) else value for value in handed]
            self.assertEqual(call(*still), call(*handed))

    def test_a_second_call_answers_the_same_and_is_not_bound_to_the_first(self):
        before = [copy.deepcopy(call(*handed)) for call, handed in self.CALLS]
        for (call, handed), wanted in reversed(list(zip(self.CALLS, before))):
            answer = call(*handed)
            self.assertEqual(answer, wanted)
            answer.append(99)
            self.assertEqual(call(*handed), wanted)

    def test_answers_are_lists_of_whole_numbers(self):
        for call, handed in self.CALLS:
            answer = call(*handed)
            self.assertIs(type(answer), list)
            self.assertEqual({type(number) for number in answer}, {int})

    def test_nothing_is_printed(self):
        out, err = io.StringIO(), io.StringIO()
        with contextlib.redirect_stdout(out), contextlib.redirect_stderr(err):
            for call, handed in self.CALLS:
                call(*handed)
        self.assertEqual((out.getvalue(), err.getvalue()), ("", ""))

    def test_arguments_have_the_names_that_the_document_tells(self):
        self.assertEqual(place(m=1, x=[0, 0, 1, 0], l=[0, 1]), place(1, [0, 0, 1, 0], [0, 1]))
        self.assertEqual(steps(m=1, k=2, x=[0, 0, 1, 0], z=[0, 0]), steps(1, 2, [0, 0, 1, 0], [0, 0]))
        self.assertEqual(patterns(m=1, k=2, x=[0, 0, 1, 0]), patterns(1, 2, [0, 0, 1, 0]))
        self.assertEqual(many(m=1, k=2, x=[0, 0, 1, 0]), many(1, 2, [0, 0, 1, 0]))
        self.assertEqual(share(m=1, x=[0, 0, 1, 0], l=[0, 1]), share(1, [0, 0, 1, 0], [0, 1]))
        self.assertEqual(returns(m=1, x=[0, 0, 1, 0], l=[0, 1]), returns(1, [0, 0, 1, 0], [0, 1]))
        self.assertEqual(again(m=1, x=[0, 0, 1, 0], z=[0, 0], l=[1, 1]), again(1, [0, 0, 1, 0], [0, 0], [1, 1]))
        self.assertEqual(alike(m=1, k=2, x=[0, 0, 1, 0], z=[0, 0], y=[1, 1]), alike(1, 2, [0, 0, 1, 0], [0, 0], [1, 1]))
        for call, names in ((place, "mxl"), (steps, "mkxz"), (patterns, "mkx"), (many, "mkx"), (share, "mxl"),
                            (returns, "mxl"), (again, "mxzl"), (alike, "mkxzy")):
            self.assertEqual("".join(inspect.signature(call).parameters), names)


if __name__ == "__main__":
    unittest.main()
