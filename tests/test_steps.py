"""steps: which steps lead on from a point (the row of steps; points 1 and 2)."""

import itertools
import unittest

from tests import oracle
from windowsteps.patterns import steps


def walked(z, answer):
    """The points that the answered steps lead to, z first."""
    points = [z]
    for at in range(1, len(answer), 2):
        points.append(oracle.add(points[-1], (answer[at], answer[at + 1])))
    return points


class OrdinarySteps(unittest.TestCase):
    def test_two_steps_worked_out_by_hand(self):
        self.assertEqual(steps(1, 5, [0, 0, 0, 1], [0, 0]), [5, 1, 0, 0, 1, 1, 0, 0, 1, 0, 1])

    def test_three_steps_worked_out_by_hand(self):
        # The partners: 0, 1, 0.38.., 1.38.., 0.76.., 1.76.., 0.14.. (1 leads on by 1, w back by 0.61..,
        # w less 1 back by 1.61..).
        self.assertEqual(steps(1, 6, [0, 0, 2, 0], [0, 0]), [6, 1, 0, 0, 1, 1, 0, 0, 1, 1, 0, -1, 1])

    def test_window_of_length_1(self):
        self.assertEqual(steps(1, 3, [0, 0, 1, 0], [0, 0]), [3, 1, 1, 1, 1, 0, 1])
        self.assertEqual(steps(4, 3, [0, 0, 1, 0], [0, 0]), [3, 1, 1, 0, 1, 0, 1])

    def test_no_step(self):
        self.assertEqual(steps(2, 0, [0, 0, 1, 0], [0, 0]), [0])

    def test_steps_below_1(self):
        # 17.9 long, so the least steps are 1 divided by w and 13 less 3 w.
        self.assertEqual(steps(4, 2, [0, 0, 17, 0], [0, 0]), [2, 13, -3, -4, 1])

    def test_the_points_are_those_found_by_trying(self):
        for m in (1, 2, 3, 4):
            for x in oracle.windows(m):
                points = oracle.row_of_points(m, x, oracle.first_point(m, x), 33)
                for k in (0, 1, 2, 5, 11, 12):
                    for at in (0, 1, 7, 20):
                        wanted = oracle.steps_between(points[at:at + k + 1])
                        with self.subTest(m=m, x=x, k=k, z=points[at]):
                            self.assertEqual(steps(m, k, x, list(points[at])), [k] + oracle.flat(wanted))

    def test_each_step_leads_to_a_point_and_none_lies_between(self):
        for m in (1, 2, 3, 4):
            for x in oracle.windows(m):
                points = walked(oracle.first_point(m, x), steps(m, 12, x, list(oracle.first_point(m, x))))
                self.assertEqual(len(points), 13)
                for before, after in zip(points, points[1:]):
                    with self.subTest(m=m, x=x, before=before):
                        self.assertTrue(oracle.is_point(m, before, x))
                        self.assertTrue(oracle.is_point(m, after, x))
                        self.assertTrue(oracle.below(m, before, after))
                        nearer = [p for p in oracle.points_from(m, x, before, 16)[1:] if oracle.below(m, p, after)]
                        self.assertEqual(nearer, [])


class LargeNumbers(unittest.TestCase):
    def test_far_out(self):
        for m in (1, 2, 3, 4):
            for x, z in itertools.product(oracle.windows_about_far_points(m), oracle.FAR_POINTS[m]):
                with self.subTest(m=m, x=x, z=z):
                    if not oracle.is_point(m, z, x):
                        self.assertEqual(steps(m, 12, x, list(z)), [-2])
                        continue
                    wanted = oracle.steps_between(oracle.row_of_points(m, x, z, 13))
                    self.assertEqual(steps(m, 12, x, list(z)), [12] + oracle.flat(wanted))

    def test_every_number_at_its_bound(self):
        x = [1000000, -1000000, 1000000, -999999]
        for m, z in ((1, (0, 1000000)), (2, (-1000000, 1000000))):
            self.assertEqual(steps(m, 12, x, list(z)), steps(m, 12, [0, 0, 0, 1], [0, 0]))

    def test_windows_close_to_their_bounds(self):
        for m in (1, 2, 3, 4):
            n = max(n for n in range(40) if max(map(abs, oracle.power(m, -n))) < 999990)
            tiny = oracle.power(m, -n)
            for length in (oracle.add((1, 0), tiny), oracle.sub((1, m), tiny)):
                with self.subTest(m=m, length=length):
                    x = [0, 0] + list(length)
                    wanted = oracle.steps_between(oracle.row_of_points(m, x, (0, 0), 13))
                    self.assertEqual(steps(m, 12, x, [0, 0]), [12] + oracle.flat(wanted))

    def test_a_point_by_a_hair(self):
        for m in (1, 2, 3, 4):
            n = max(n for n in range(40) if max(map(abs, oracle.power(m, -n))) < 400000)
            tiny = oracle.power(m, -n)
            for p, held in ((tiny, True), (oracle.sub((0, 0), tiny), False),
                            (oracle.sub((1, 0), tiny), True), (oracle.add((1, 0), tiny), False)):
                z = oracle.partner(m, p)
                if max(map(abs, z)) <= 1000000:
                    with self.subTest(m=m, z=z):
                        self.assertEqual(steps(m, 0, [0, 0, 1, 0], list(z)), [0] if held else [-2])


class MovedWindows(unittest.TestCase):
    def test_a_window_moved_has_the_same_steps(self):
        for m in (1, 2, 3, 4):
            for x in oracle.windows(m):
                z = oracle.first_point(m, x)
                for way in ((1, 0), (-5, 3), (900, -555), (0, 100000)):
                    moved = oracle.add((x[0], x[1]), way) + oracle.add((x[2], x[3]), way)
                    there = oracle.add(z, oracle.partner(m, way))
                    with self.subTest(m=m, x=x, way=way):
                        self.assertEqual(steps(m, 12, list(moved), list(there)), steps(m, 12, x, list(z)))


class Ends(unittest.TestCase):
    def test_the_windows_beginning_is_in_it_and_its_end_is_not(self):
        for m in (1, 2, 3, 4):
            for x in oracle.windows(m):
                self.assertEqual(steps(m, 0, x, list(oracle.partner(m, (x[0], x[1])))), [0])
                self.assertEqual(steps(m, 0, x, list(oracle.partner(m, (x[2], x[3])))), [-2])
                self.assertEqual(steps(m, 3, x, list(oracle.partner(m, (x[2], x[3])))), [-2])

    def test_at_the_end_of_a_place_the_next_place_begins(self):
        # Places: 1 from 0 to 1, w from 1 to w, w less 1 from w to 2. Partners 0, 1, w, all of them ends.
        x = [0, 0, 2, 0]
        self.assertEqual(steps(1, 1, x, [0, 0]), [1, 1, 0])
        self.assertEqual(steps(1, 1, x, [1, 0]), [1, 0, 1])
        self.assertEqual(steps(1, 1, x, [1, -1]), [1, -1, 1])
        self.assertEqual(steps(1, 1, x, [2, 0]), [-2])


if __name__ == "__main__":
    unittest.main()
