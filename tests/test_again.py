"""again: the next point with the pattern (the row of again; points 1 and 2)."""

import itertools
import unittest

from tests import oracle, walks
from windowsteps.patterns import again, place, returns, steps

MS = (1, 2, 3, 4)


class WorkedOutByHand(unittest.TestCase):
    def test_two_steps(self):
        # From 0 on: 1, w, 1, w, w, then 1 again. So the points 0, 1, 1 and w, 2 and w, 2 and 2 w, 2 and 3 w.
        x = [0, 0, 0, 1]
        self.assertEqual(again(1, x, [0, 0], [1, 0]), [0, 1, 1])
        self.assertEqual(again(1, x, [1, 1], [1, 0]), [0, 2, 3])
        self.assertEqual(again(1, x, [1, 0], [0, 1]), [0, 2, 1])
        self.assertEqual(again(1, x, [2, 1], [0, 1]), [0, 2, 2])
        self.assertEqual(again(1, x, [0, 0], [1, 0, 0, 1]), [0, 1, 1])
        self.assertEqual(again(1, x, [1, 0], [0, 1, 1, 0]), [0, 2, 2])

    def test_a_point_without_the_pattern(self):
        x = [0, 0, 0, 1]
        self.assertEqual(again(1, x, [0, 0], [0, 1]), [-2])
        self.assertEqual(again(1, x, [1, 0], [1, 0]), [-2])
        self.assertEqual(again(1, x, [1, 0], [0, 1, 0, 1]), [-2])

    def test_steps_below_1(self):
        # 17 long: from 0 on by 13 less 3 w, then by w less 4.
        self.assertEqual(again(4, [0, 0, 17, 0], [0, 0], []), [0, 13, -3])
        self.assertEqual(again(4, [0, 0, 17, 0], [13, -3], []), [0, 9, -2])


class FoundByTrying(unittest.TestCase):
    def hold(self, m, x, z, l):
        wanted = oracle.next_point(m, place(m, x, l)[1:], z)
        with self.subTest(m=m, x=x, z=z, l=l):
            self.assertEqual(again(m, x, list(z), l), [0] + list(wanted))

    def test_points_near_and_far(self):
        for m in MS:
            for x in walks.windows_with_points(m):
                for z, k in itertools.product(walks.points_near_and_far(m, x), range(13)):
                    self.hold(m, x, z, steps(m, k, x, list(z))[1:])

    def test_points_where_another_way_begins_to_lead_back(self):
        for m in MS:
            for x in walks.windows_with_points(m):
                for k in range(13):
                    for pattern in oracle.rows_of_window(m, x, k)[::2]:
                        for z in walks.starts(m, x, pattern):
                            self.hold(m, x, z, oracle.flat(pattern))

    def test_windows_of_all_lengths(self):
        for m in MS:
            for x in oracle.windows_of_all_lengths(m):
                for k in (0, 1, 3, 6):
                    for pattern in oracle.rows_of_window(m, x, k):
                        for z in walks.starts(m, x, pattern):
                            self.hold(m, x, z, oracle.flat(pattern))


class Walked(unittest.TestCase):
    """From point to point by steps."""

    def test_what_is_answered_is_the_next_one_that_has_it(self):
        tried = 0
        for m in MS:
            for x in walks.windows_with_points(m):
                z = walks.points_near_and_far(m, x)[0]
                row = list(itertools.islice(walks.walk(m, x, z), 400))
                points = list(itertools.accumulate(row, oracle.add, initial=z))
                for k in range(13):
                    rows = [row[at:at + k] for at in range(len(row) - k + 1)]
                    for at in range(min(25, len(rows))):
                        if rows[at] in rows[at + 1:] and walks.may_be_handed_in(points[at]):
                            wanted = points[rows.index(rows[at], at + 1)]
                            tried += 1
                            with self.subTest(m=m, x=x, z=points[at], k=k):
                                answer = again(m, x, list(points[at]), oracle.flat(rows[at]))
                                self.assertEqual(answer, [0] + list(wanted))
        self.assertGreater(tried, 30000)

    def test_it_is_behind_and_a_point_and_has_the_pattern_and_is_as_far_as_returns_tells(self):
        tried = 0
        for m in MS:
            for x in walks.windows_with_points(m):
                for z, k in itertools.product(walks.points_near_and_far(m, x), range(13)):
                    l = steps(m, k, x, list(z))[1:]
                    first, a, b = again(m, x, list(z), l)
                    with self.subTest(m=m, x=x, z=z, k=k):
                        self.assertEqual(first, 0)
                        self.assertTrue(oracle.below(m, z, (a, b)))
                        self.assertTrue(oracle.is_point(m, (a, b), x))
                        self.assertIn(oracle.sub((a, b), z), oracle.pairs(returns(m, x, l)[1:]))
                        if walks.may_be_handed_in((a, b)):
                            tried += 1
                            self.assertEqual(steps(m, k, x, [a, b])[1:], l)
        self.assertGreater(tried, 10000)

    def test_each_distance_is_met(self):
        for m in MS:
            for x in oracle.windows(m):
                for k in (0, 1, 2, 7, 12):
                    for pattern in oracle.rows_of_window(m, x, k):
                        l = oracle.flat(pattern)
                        met = {oracle.sub(again(m, x, list(z), l)[1:], z) for z in walks.starts(m, x, pattern)}
                        self.assertEqual(met, set(walks.distances(m, x, pattern)), (m, x, l))


class Corners(unittest.TestCase):
    def test_with_no_steps_it_is_the_next_point(self):
        for m in MS:
            for x in walks.windows_with_points(m):
                for z in walks.points_near_and_far(m, x):
                    step = steps(m, 1, x, list(z))[1:]
                    self.assertEqual(again(m, x, list(z), []), [0] + list(oracle.add(z, step)), (m, x, z))

    def test_twelve_steps(self):
        # The distances are 5 and 8 w, 8 and 13 w (see test_returns); the partner of the first is above 0, that of the
        # second below it, and the place begins at 0.
        x = [0, 0, 0, 1]
        l = steps(1, 12, x, [0, 0])[1:]
        self.assertEqual(again(1, x, [0, 0], l), [0, 5, 8])
        self.assertEqual(steps(1, 12, x, [5, 8])[1:], l)
        self.assertEqual(again(1, x, [0, 0], l + [0, 1]), [-28])

    def test_a_window_of_length_1(self):
        x = [0, 0, 1, 0]
        for m in MS:
            self.assertEqual(again(m, x, [0, 0], []), [0, 1, 1])
        # The partner of 1 and w is 0.38.. if m is 1: from there 1 and w leads on, to 0.76...
        self.assertEqual(again(1, x, [1, 1], []), [0, 2, 2])
        # If m is 2 it's 0.58..: from there w leads to 0.17.., 1 and w to 0.75.., which is from 0.41.. on, as w is. If m
        # is 3 or 4, w leads from 0.69.. to 0.39.., or from 0.76.. to 0.52.., and from 0.30.. or 0.23.. on it's w.
        self.assertEqual([again(m, x, [1, 1], [0, 1]) for m in (2, 3, 4)], [[0, 2, 3], [0, 1, 2], [0, 1, 2]])

    def test_a_point_at_the_end_of_a_place(self):
        # Places: 1 from 0 to 1, w from 1 to w, w less 1 from w to 2. The points 1 and 1 less w have partners 1 and w.
        x = [0, 0, 2, 0]
        self.assertEqual(again(1, x, [1, 0], [1, 0]), [-2])
        self.assertEqual(again(1, x, [1, 0], [0, 1])[0], 0)
        self.assertEqual(again(1, x, [1, -1], [0, 1]), [-2])
        self.assertEqual(again(1, x, [1, -1], [-1, 1])[0], 0)
        self.assertEqual(again(1, x, [2, 0], [-1, 1]), [-2])

    def test_ends_of_places(self):
        # Where a place begins its pattern is had, where it ends it isn't, and a hair ahead of both it's the other way.
        for m in MS:
            hair = oracle.power(m, -8)
            for x in oracle.windows(m):
                for k in (1, 2, 6, 12):
                    for pattern in oracle.rows_of_window(m, x, k):
                        l = oracle.flat(pattern)
                        span = place(m, x, l)[1:]
                        begin, end = span[:2], span[2:]
                        for p in (begin, end, oracle.sub(begin, hair), oracle.sub(end, hair)):
                            first = 0 if oracle.inside(m, p, span) else -2
                            answer = again(m, x, list(oracle.partner(m, p)), l)
                            self.assertEqual([answer[0], len(answer)], [first, 1 if first else 3], (m, x, l, p))

    def test_short_places(self):
        # The window is longer than 1 by the place of 1, and that is 1, divided by w 20 times. So the distances are w
        # by itself 21 times and 22 times. Only the second one's partner is above 0, so that is the way from 0 on; by
        # the first one a point leads to 0.
        x = [0, 0, 10947, -6765]
        self.assertEqual(place(1, x, [1, 0]), [0, 0, 0, 10946, -6765])
        self.assertEqual(again(1, x, [0, 0], [1, 0]), [0, 10946, 17711])
        self.assertEqual(again(1, x, [-6765, -10946], [1, 0]), [0, 0, 0])
        # The same with 30 times.
        x = [-673135, 416020, 673135, -416020]
        self.assertEqual(again(1, x, [-257115, -416020], [1, 0]), [0, -257115 + 1346269, -416020 + 2178309])

    def test_the_next_one_may_lie_beyond_what_may_be_handed_in(self):
        self.assertEqual(again(1, [1000000, -1000000, 1000000, -999999], [0, 1000000], []), [0, 1, 1000000])
        self.assertEqual(again(1, [1000000, -1000000, 1000000, -999999], [1, 1000000], []), [0, 1, 1000001])


if __name__ == "__main__":
    unittest.main()
