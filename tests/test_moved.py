"""A window moved has the same patterns, each as often (point 2), as share and returns tell it."""

import unittest

from tests import oracle
from windowsteps.patterns import returns, share

MS = (1, 2, 3, 4)


class SharesAndDistances(unittest.TestCase):
    def hold(self, m, x, other, ks):
        for k in ks:
            self.assertEqual(oracle.rows_of_window(m, x, k), oracle.rows_of_window(m, other, k))
            for pattern in oracle.rows_of_window(m, x, k):
                l = oracle.flat(pattern)
                with self.subTest(m=m, x=x, other=other, l=l):
                    self.assertEqual(share(m, other, l), share(m, x, l))
                    self.assertEqual(returns(m, other, l), returns(m, x, l))

    def test_a_window_moved(self):
        for m in MS:
            for x in oracle.windows(m):
                for way in oracle.MOVES:
                    self.hold(m, x, oracle.moved(x, way), (0, 1, 3, 12))

    def test_a_window_moved_as_far_as_may_be(self):
        for m in MS:
            for x in oracle.far_windows(m)[:8]:
                self.hold(m, x, [0, 0] + list(oracle.length(x)), range(13))


if __name__ == "__main__":
    unittest.main()
