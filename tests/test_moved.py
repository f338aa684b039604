"""A window moved has the same patterns, each as often (point 2), as all eight calls tell it."""

import unittest

from tests import oracle, walks
from windowsteps.patterns import again, alike, many, patterns, place, returns, share, steps

MS = (1, 2, 3, 4)


class MovedWindows(unittest.TestCase):
    def hold_patterns(self, m, x, way, ks):
        other = oracle.moved(x, way)
        for k in ks:
            self.assertEqual(patterns(m, k, other), patterns(m, k, x))
            self.assertEqual(many(m, k, other), many(m, k, x))
            self.assertEqual(oracle.rows_of_window(m, x, k), oracle.rows_of_window(m, other, k))
            for pattern in oracle.rows_of_window(m, x, k):
                l = oracle.flat(pattern)
                with self.subTest(m=m, x=x, other=other, l=l):
                    self.assertEqual(place(m, other, l)[1:], oracle.moved(place(m, x, l)[1:], way))
                    self.assertEqual(share(m, other, l), share(m, x, l))
                    self.assertEqual(returns(m, other, l), returns(m, x, l))

    def hold_points(self, m, x, way, ks):
        other, far = oracle.moved(x, way), oracle.partner(m, way)
        points = [list(z) for z in walks.points_near_and_far(m, x) if walks.may_be_handed_in(oracle.add(z, far))]
        for k in ks:
            for z, y in zip(points, points[1:] + points[:1]):
                l = steps(m, k, x, z)[1:]
                z_there, y_there = list(oracle.add(z, far)), list(oracle.add(y, far))
                with self.subTest(m=m, x=x, other=other, k=k, z=z, y=y):
                    self.assertEqual(steps(m, k, other, z_there)[1:], l)
                    self.assertEqual(again(m, other, z_there, l)[1:], list(oracle.add(again(m, x, z, l)[1:], far)))
                    self.assertEqual(alike(m, k, other, z_there, y_there), alike(m, k, x, z, y))
        return len(points)

    def test_a_window_moved(self):
        tried = 0
        for m in MS:
            for x in oracle.windows(m):
                for way in oracle.MOVES:
                    self.hold_patterns(m, x, way, (0, 1, 3, 12))
                    tried += self.hold_points(m, x, way, (0, 1, 3, 12))
        self.assertGreater(tried, 2000)

    def test_a_window_moved_as_far_as_may_be(self):
        tried = 0
        for m in MS:
            for x in oracle.far_windows(m)[:8] + oracle.windows_about_far_points(m):
                home = oracle.sub((0, 0), x[:2])
                self.hold_patterns(m, x, home, range(13))
                tried += self.hold_points(m, x, home, range(13))
        self.assertGreater(tried, 30)


if __name__ == "__main__":
    unittest.main()
