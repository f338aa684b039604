"""alike: whether the same steps lead on from two points (the row of alike; points 1 and 2)."""

import itertools
import unittest

from tests import oracle, walks
from windowsteps.patterns import alike, place, steps

MS = (1, 2, 3, 4)


def a_hair(m):
    """A number just above 0 with which a point that isn't far out may still be handed in."""
    return [p for p in (oracle.power(m, -n) for n in range(40)) if max(map(abs, p)) < 300000][-1]


class WorkedOutByHand(unittest.TestCase):
    def test_two_steps(self):
        # From 0 on: 1, w, 1, w, w, then 1 again. So the points 0, 1, 1 and w, 2 and w, 2 and 2 w, 2 and 3 w.
        x = [0, 0, 0, 1]
        self.assertEqual(steps(1, 6, x, [0, 0]), [6, 1, 0, 0, 1, 1, 0, 0, 1, 0, 1, 1, 0])
        self.assertEqual([alike(1, k, x, [0, 0], [1, 1]) for k in range(5)], [[1], [1], [1], [0], [0]])
        self.assertEqual([alike(1, k, x, [1, 0], [2, 2]) for k in range(4)], [[1], [1], [1], [1]])
        self.assertEqual([alike(1, k, x, [2, 1], [2, 2]) for k in range(4)], [[1], [1], [0], [0]])
        self.assertEqual([alike(1, k, x, [0, 0], [1, 0]) for k in range(3)], [[1], [0], [0]])

    def test_a_later_step_alone_is_another(self):
        # The twelve steps from 0 on and from 5 and 8 w on are the same (see test_again). From 2 and 3 w on, five steps
        # further than 0, they are 1, w, 1, w, w, 1, w as from 0 on; then comes w, but 1 in the row from 0 on.
        x = [0, 0, 0, 1]
        self.assertEqual([alike(1, k, x, [0, 0], [5, 8]) for k in range(13)], [[1]] * 13)
        self.assertEqual([alike(1, k, x, [0, 0], [2, 3]) for k in range(13)], [[1]] * 8 + [[0]] * 5)

    def test_the_twelfth_step_alone_is_another(self):
        # Where a place of eleven steps is parted by the twelfth.
        for m in MS:
            for x in oracle.windows(m):
                rows = oracle.rows_of_window(m, x, 12)
                for one, other in zip(rows, rows[1:]):
                    if one[:11] == other[:11]:
                        z, y = (list(oracle.partner(m, place(m, x, oracle.flat(row))[1:3])) for row in (one, other))
                        self.assertEqual([alike(m, k, x, z, y) for k in (0, 11, 12)], [[1], [1], [0]], (m, x, z, y))


class AgreesWithSteps(unittest.TestCase):
    def test_pairs_of_points_near_and_far(self):
        met = set()
        for m in MS:
            for x in walks.windows_with_points(m):
                points = walks.points_near_and_far(m, x)
                for k in range(13):
                    rows = {z: steps(m, k, x, list(z)) for z in points}
                    for z, y in itertools.product(points, repeat=2):
                        same = int(rows[z] == rows[y])
                        met.add((m, k, same))
                        self.assertEqual(alike(m, k, x, list(z), list(y)), [same], (m, k, x, z, y))
        self.assertEqual(met, set(itertools.product(MS, range(13), (0, 1))) - {(m, 0, 0) for m in MS})

    def test_points_one_behind_another(self):
        # By what is found by trying, not by steps.
        for m in MS:
            for x in oracle.windows(m)[::3]:
                points = oracle.row_of_points(m, x, oracle.first_point(m, x), 25)
                row = oracle.steps_between(points)
                for k in range(13):
                    for z, y in itertools.combinations(range(0, 12), 2):
                        same = int(row[z:z + k] == row[y:y + k])
                        answer = alike(m, k, x, list(points[z]), list(points[y]))
                        self.assertEqual(answer, [same], (m, k, x, points[z], points[y]))

    def test_one_point(self):
        for m in MS:
            for x in walks.windows_with_points(m):
                for z, k in itertools.product(walks.points_near_and_far(m, x), range(13)):
                    self.assertEqual(alike(m, k, x, list(z), list(z)), [1], (m, k, x, z))


class Places(unittest.TestCase):
    """Two points are alike just if one place has both of their partners."""

    def test_within_a_place_and_at_both_its_ends(self):
        tried = 0
        for m in MS:
            hair = a_hair(m)
            for x in oracle.windows(m):
                for k in range(13):
                    for pattern in oracle.rows_of_window(m, x, k):
                        span = place(m, x, oracle.flat(pattern))[1:]
                        begin, last, end = (oracle.partner(m, p) for p in (
                            span[:2], oracle.sub(span[2:], hair), span[2:]))
                        told = [alike(m, k, x, list(z), list(y)) for z, y in (
                            (begin, last), (last, begin), (begin, end), (end, last))]
                        behind = [-2] if span[2:] == x[2:] else [0]
                        tried += 1
                        self.assertEqual(told, [[1], [1], behind, behind], (m, k, x, pattern))
        self.assertGreater(tried, 10000)

    def test_where_places_begin_no_two_are_alike(self):
        for m in MS:
            for x in oracle.windows(m)[::2]:
                for k in (1, 2, 5, 12):
                    places = [place(m, x, oracle.flat(row)) for row in oracle.rows_of_window(m, x, k)]
                    points = [list(oracle.partner(m, answer[1:3])) for answer in places]
                    for z, y in itertools.product(points, repeat=2):
                        self.assertEqual(alike(m, k, x, z, y), [int(z == y)], (m, k, x, z, y))


class Corners(unittest.TestCase):
    def test_with_no_steps_all_are_alike(self):
        for m in MS:
            for x in walks.windows_with_points(m):
                for z, y in itertools.product(walks.points_near_and_far(m, x), repeat=2):
                    self.assertEqual(alike(m, 0, x, list(z), list(y)), [1], (m, x, z, y))

    def test_twelve_steps_and_thirteen(self):
        for m in MS:
            self.assertEqual(alike(m, 12, [0, 0, 1, 0], [0, 0], [0, 0]), [1])
            self.assertEqual(alike(m, 13, [0, 0, 1, 0], [0, 0], [0, 0]), [-28])

    def test_a_window_of_length_1(self):
        # 1 and w up to 1, divided by w; from there on w. The partners of 1 and w, w, 2 and 2 w and the like tell.
        x = [0, 0, 1, 0]
        self.assertEqual(alike(1, 1, x, [0, 0], [1, 1]), [1])
        self.assertEqual(alike(1, 2, x, [0, 0], [1, 1]), [0])
        self.assertEqual(alike(4, 1, x, [0, 0], [1, 1]), [0])
        self.assertEqual(alike(4, 1, x, [1, 1], [1, 2]), [1])

    def test_a_point_at_the_end_of_a_place(self):
        # Places: 1 from 0 to 1, w from 1 to w, w less 1 from w to 2. The points 1 and 1 less w have partners 1 and w.
        x = [0, 0, 2, 0]
        self.assertEqual(alike(1, 1, x, [0, 0], [1, 0]), [0])
        self.assertEqual(alike(1, 1, x, [1, 0], [1, -1]), [0])
        self.assertEqual(alike(1, 1, x, [1, -1], [2, 0]), [-2])


if __name__ == "__main__":
    unittest.main()
