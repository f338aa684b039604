"""share: a pattern's place by the window (the row of share; points 1 and 2)."""

import itertools
import math
import unittest

from tests import oracle, walks
from windowsteps.patterns import patterns, place, share

MS = (1, 2, 3, 4)


class WorkedOutByHand(unittest.TestCase):
    def test_two_steps(self):
        # From 0 to w: w leads on from w less 1, 1 leads on ahead of that. 1 divided by w is w less 1.
        x = [0, 0, 0, 1]
        self.assertEqual(share(1, x, [0, 1]), [0, -1, 1, 1])
        self.assertEqual(share(1, x, [1, 0]), [0, 2, -1, 1])
        self.assertEqual(share(1, x, [1, 0, 0, 1]), [0, 2, -1, 1])
        # From w less 1 up to 2 w less 2: again w less 1 long. From there on: 2 less w, so 2 w less 3 of w.
        self.assertEqual(share(1, x, [0, 1, 1, 0]), [0, 2, -1, 1])
        self.assertEqual(share(1, x, [0, 1, 0, 1]), [0, -3, 2, 1])

    def test_three_steps_and_a_divisor(self):
        x = [0, 0, 2, 0]
        self.assertEqual(share(1, x, [1, 0]), [0, 1, 0, 2])
        self.assertEqual(share(1, x, [0, 1]), [0, -1, 1, 2])
        self.assertEqual(share(1, x, [-1, 1]), [0, 2, -1, 2])

    def test_what_is_common_is_taken_out(self):
        # From 0 to 2, m is 2: the step 1 up to 1, w from there up to w less 1, w less 1 from there on. 2 by its
        # partner is 4, and that much is never needed.
        x = [0, 0, 2, 0]
        self.assertEqual(share(2, x, [1, 0]), [0, 1, 0, 2])
        self.assertEqual(share(2, x, [0, 1]), [0, -2, 1, 2])
        self.assertEqual(share(2, x, [-1, 1]), [0, 3, -1, 2])

    def test_a_window_whose_partner_is_below_0(self):
        # From 0 to 2 w less 1: its square is 5, and its partner is as far below 0. The divisor is above 0.
        self.assertEqual(place(1, [0, 0, -1, 2], [1, 0]), [0, 0, 0, -2, 2])
        self.assertEqual(share(1, [0, 0, -1, 2], [1, 0]), [0, 6, -2, 5])


class AgreesWithPlace(unittest.TestCase):
    def hold(self, m, x, pattern):
        span = place(m, x, oracle.flat(pattern))
        answer = share(m, x, oracle.flat(pattern))
        self.assertEqual([len(span), span[0], len(answer), answer[0]], [5, 0, 4, 0])
        a, b, divisor = answer[1:]
        self.assertGreater(divisor, 0)
        self.assertEqual(math.gcd(a, b, divisor), 1)
        self.assertEqual(oracle.mul(m, (a, b), oracle.length(x)), oracle.mul(m, oracle.length(span[1:]), (divisor, 0)))

    def test_the_share_by_the_windows_length_is_the_places_length(self):
        for m, x in oracle.most_windows():
            for k in range(13):
                for pattern in oracle.rows_of_window(m, x, k):
                    with self.subTest(m=m, x=x, pattern=pattern):
                        self.hold(m, x, pattern)

    def test_windows_of_all_lengths(self):
        for m in MS:
            for x in oracle.windows_of_all_lengths(m):
                for k in (0, 1, 2, 6):
                    for pattern in oracle.rows_of_window(m, x, k):
                        with self.subTest(m=m, x=x, pattern=pattern):
                            self.hold(m, x, pattern)

    def test_with_steps_a_share_is_above_0_and_below_1(self):
        for m, x in oracle.most_windows():
            for k in (1, 6, 12):
                for pattern in oracle.rows_of_window(m, x, k):
                    first, a, b, divisor = share(m, x, oracle.flat(pattern))
                    self.assertTrue(oracle.below(m, (0, 0), (a, b)), (m, x, pattern))
                    self.assertTrue(oracle.below(m, (a, b), (divisor, 0)), (m, x, pattern))


class Together(unittest.TestCase):
    def test_the_shares_of_all_patterns_that_are_told_make_1(self):
        for m, x in oracle.most_windows():
            for k in range(1, 7):
                told = oracle.pairs(patterns(m, k, x)[1:])
                answers = [share(m, x, oracle.flat(told[at:at + k])) for at in range(0, len(told), k)]
                self.assertEqual(oracle.sum_of_shares(answers), (1, 0), (m, k, x))

    def test_the_shares_of_all_patterns_of_more_steps_make_1(self):
        for m, x in oracle.most_windows():
            for k in range(7, 13):
                answers = [share(m, x, oracle.flat(row)) for row in oracle.rows_of_window(m, x, k)]
                self.assertEqual(oracle.sum_of_shares(answers), (1, 0), (m, k, x))

    def test_a_pattern_comes_as_often_as_its_share_tells(self):
        # How many of so many points have it is never far from what the share tells, however many they are.
        for m in MS:
            for x in oracle.windows(m):
                row = list(itertools.islice(walks.walk(m, x, oracle.first_point(m, x)), 2000))
                for k in (1, 2, 5, 12):
                    had = [tuple(row[at:at + k]) for at in range(len(row) - k + 1)]
                    for pattern in oracle.rows_of_window(m, x, k):
                        first, a, b, divisor = share(m, x, oracle.flat(pattern))
                        wanted = len(had) * oracle.value(m, (a, b)) // (2 * oracle.SCALE * divisor)
                        self.assertLess(abs(had.count(tuple(pattern)) - wanted), 9, (m, x, pattern))


class Corners(unittest.TestCase):
    def test_no_steps_have_all(self):
        for m, x in oracle.most_windows():
            self.assertEqual(share(m, x, []), [0, 1, 0, 1], (m, x))

    def test_twelve_steps(self):
        # The place is from 0 to 5 w less 8 (see test_place), and divided by w that is 13 less 8 w.
        l = [1, 0, 0, 1, 1, 0, 0, 1, 0, 1, 1, 0, 0, 1, 1, 0, 0, 1, 0, 1, 1, 0, 0, 1]
        self.assertEqual(share(1, [0, 0, 0, 1], l), [0, 13, -8, 1])
        self.assertEqual(share(1, [0, 0, 0, 1], l + [0, 1]), [-28])

    def test_a_step_that_there_is_not(self):
        for m, x in oracle.most_windows():
            known = oracle.flat(oracle.rows_of_window(m, x, 1)[0])
            for strange in ([0, 0], [-1, 0], [0, -1], [50, 0], [1000000, -1000000]):
                for l in (strange, known + strange, strange + known):
                    self.assertEqual(share(m, x, l), [-33], (m, x, l))

    def test_a_window_of_length_1(self):
        # The shares are the places' lengths themselves.
        for m in MS:
            for a, b in ((0, 0),) + oracle.MOVES:
                x = [a, b, a + 1, b]
                self.assertEqual(share(m, x, [1, 1]), [0, -m, 1, 1])
                self.assertEqual(share(m, x, [0, 1]), [0, m + 1, -1, 1])
                for k in range(13):
                    for pattern in oracle.rows_of_window(m, x, k):
                        span = place(m, x, oracle.flat(pattern))
                        self.assertEqual(share(m, x, oracle.flat(pattern)), [0] + list(oracle.length(span[1:])) + [1])

    def test_a_very_short_place(self):
        # w less 1 by itself 30 times, in a window that is longer than 1 by just that.
        x = [-673135, 416020, 673135, -416020]
        self.assertEqual(place(1, x, [1, 0]), [0, -673135, 416020, 673134, -416020])
        first, a, b, divisor = share(1, x, [1, 0])
        self.assertEqual(first, 0)
        self.assertEqual(oracle.mul(1, (a, b), (1346270, -832040)), (1346269 * divisor, -832040 * divisor))


if __name__ == "__main__":
    unittest.main()
