"""returns: how far it is to the next point with the pattern (the row of returns; points 1 and 2)."""

import itertools
import unittest

from tests import oracle, walks
from windowsteps.patterns import place, returns

MS = (1, 2, 3, 4)


def is_longer(m, span, parts):
    """Whether a span is longer than 1 divided by parts."""
    return oracle.below(m, (1, 0), oracle.mul(m, oracle.length(span), (parts, 0)))


class WorkedOutByHand(unittest.TestCase):
    def test_no_steps(self):
        self.assertEqual(returns(1, [0, 0, 0, 1], []), [2, 1, 0, 0, 1])
        self.assertEqual(returns(1, [0, 0, 2, 0], []), [3, -1, 1, 1, 0, 0, 1])

    def test_two_steps(self):
        # From 0 to w: 1 is followed by w always, and w by w at most once. So from w it's as far as w, or w and 1; from
        # 1 as far as 1 and w, or 1 and twice w.
        x = [0, 0, 0, 1]
        self.assertEqual(returns(1, x, [0, 1]), [2, 0, 1, 1, 1])
        self.assertEqual(returns(1, x, [1, 0]), [2, 1, 1, 1, 2])
        self.assertEqual(returns(1, x, [1, 0, 0, 1]), [2, 1, 1, 1, 2])
        self.assertEqual(returns(1, x, [0, 1, 1, 0]), [2, 1, 1, 1, 2])
        # Between two times w twice in a row there is 1, or 1 and w and 1.
        self.assertEqual(returns(1, x, [0, 1, 0, 1]), [2, 1, 2, 2, 3])

    def test_three_steps(self):
        # From 0 to 2: 1 up to 1, w up to w, w less 1 from there on. The place of 1 is 1 long, so in it the steps are w
        # and 1 and w; that of w is w less 1 long, so it has the steps of a window from 0 to w, each by w and 1.
        x = [0, 0, 2, 0]
        self.assertEqual(returns(1, x, [1, 0]), [2, 0, 1, 1, 1])
        self.assertEqual(returns(1, x, [0, 1]), [2, 1, 1, 1, 2])

    def test_rising_though_more_w_come_first(self):
        # w less 1, then 1: by how many w they would be the other way about.
        self.assertEqual(returns(1, [0, 0, 2, 0], [])[1:5], [-1, 1, 1, 0])
        self.assertEqual(returns(4, [0, 0, 17, 0], [])[0:7], [3, -4, 1, 13, -3, 9, -2])


class FoundByTrying(unittest.TestCase):
    def test_patterns(self):
        for m, x in oracle.most_windows():
            for k in range(13):
                for pattern in oracle.rows_of_window(m, x, k):
                    span = place(m, x, oracle.flat(pattern))[1:]
                    wanted = oracle.nearest_ways(m, oracle.length(span))
                    with self.subTest(m=m, x=x, pattern=pattern):
                        self.assertEqual(returns(m, x, oracle.flat(pattern)), [len(wanted)] + oracle.flat(wanted))

    def test_windows_of_all_lengths(self):
        for m in MS:
            for x in oracle.windows_of_all_lengths(m):
                for k in (0, 1, 3, 6):
                    for pattern in oracle.rows_of_window(m, x, k):
                        span = place(m, x, oracle.flat(pattern))[1:]
                        wanted = oracle.nearest_ways(m, oracle.length(span))
                        with self.subTest(m=m, x=x, pattern=pattern):
                            self.assertEqual(returns(m, x, oracle.flat(pattern)), [len(wanted)] + oracle.flat(wanted))

    def test_two_or_three_rising_above_0(self):
        for m, x in oracle.most_windows():
            for k in range(13):
                for pattern in oracle.rows_of_window(m, x, k):
                    answer = returns(m, x, oracle.flat(pattern))
                    with self.subTest(m=m, x=x, pattern=pattern):
                        self.assertIn(answer[0], (2, 3))
                        self.assertEqual(len(answer), 1 + 2 * answer[0])
                        told = [(0, 0)] + oracle.pairs(answer[1:])
                        for before, after in zip(told, told[1:]):
                            self.assertTrue(oracle.below(m, before, after))


class Walked(unittest.TestCase):
    """From point to point by steps: the next one with the pattern, and no other, is as far as told."""

    def test_each_way_that_occurs_is_told_and_each_that_is_told_occurs(self):
        checked = 0
        for m, x in oracle.all_windows():
            row = []
            if walks.may_be_handed_in(oracle.first_point(m, x)):
                row = list(itertools.islice(walks.walk(m, x, oracle.first_point(m, x)), 1000))
            for k in range(13):
                between = walks.ways_between(row, k)
                for pattern in oracle.rows_of_window(m, x, k):
                    told = set(walks.distances(m, x, pattern))
                    met = between.get(tuple(pattern), set())
                    span = place(m, x, oracle.flat(pattern))[1:]
                    if is_longer(m, span, 3000) and met != told:
                        met = met | {walks.way_to_the_next(m, x, z, pattern) for z in walks.starts(m, x, pattern)}
                    with self.subTest(m=m, x=x, pattern=pattern):
                        self.assertLessEqual(met - {None}, told)
                        if max(map(abs, x)) < 200000 and is_longer(m, span, 3000):
                            checked += 1
                            self.assertEqual(met, told)
        self.assertGreater(checked, 10000)

    def test_far_out(self):
        # As far as the points may be handed in on both sides.
        for m, z in ((1, (0, 999000)), (1, (999000, -999000)), (2, (-999000, 999000)), (4, (999000, -499500))):
            u = oracle.partner(m, z)
            for size in ((1, 0), (0, 1), oracle.sub((1, m), oracle.power(m, -3))):
                x = list(u + oracle.add(u, size))
                for k in (0, 1, 4, 12):
                    for pattern in oracle.rows_of_window(m, x, k):
                        met = {walks.way_to_the_next(m, x, start, pattern) for start in walks.starts(m, x, pattern)}
                        with self.subTest(m=m, x=x, pattern=pattern):
                            self.assertEqual(met, set(walks.distances(m, x, pattern)))

    def test_short_places(self):
        # Places shorter than 1, divided by 5,000: from one point to the next it's a long walk.
        for m, n, times in ((1, 20, 1), (1, 20, 2), (2, 12, 1), (2, 12, 2), (3, 8, 1), (4, 7, 2)):
            size = oracle.add((1, 0), oracle.mul(m, oracle.power(m, -n), (times, 0)))
            x = [0, 0] + list(size)
            pattern = min(oracle.rows_of_window(m, x, 1),
                          key=lambda row: oracle.value(m, oracle.length(place(m, x, oracle.flat(row))[1:])))
            with self.subTest(m=m, x=x):
                self.assertFalse(is_longer(m, place(m, x, oracle.flat(pattern))[1:], 5000))
                met = {walks.way_to_the_next(m, x, z, pattern) for z in walks.starts(m, x, pattern)}
                self.assertEqual(met, set(walks.distances(m, x, pattern)))


class Corners(unittest.TestCase):
    def test_with_no_steps_the_distances_are_the_steps(self):
        for m, x in oracle.most_windows():
            known = sorted((row[0] for row in oracle.rows_of_window(m, x, 1)), key=lambda step: oracle.value(m, step))
            self.assertEqual(returns(m, x, []), [len(known)] + oracle.flat(known), (m, x))

    def test_twelve_steps(self):
        # The place is 5 w less 8 long (see test_place), which is w, divided by w w three times. So the distances are 1
        # and w, by w w three times: 5 and 8 w, 8 and 13 w.
        l = [1, 0, 0, 1, 1, 0, 0, 1, 0, 1, 1, 0, 0, 1, 1, 0, 0, 1, 0, 1, 1, 0, 0, 1]
        self.assertEqual(returns(1, [0, 0, 0, 1], l), [2, 5, 8, 8, 13])
        self.assertEqual(returns(1, [0, 0, 0, 1], l + [0, 1]), [-28])

    def test_a_step_that_there_is_not(self):
        for m, x in oracle.most_windows():
            known = oracle.flat(oracle.rows_of_window(m, x, 1)[0])
            for strange in ([0, 0], [-1, 0], [0, -1], [50, 0], [1000000, -1000000]):
                for l in (strange, known + strange, strange + known):
                    self.assertEqual(returns(m, x, l), [-33], (m, x, l))

    def test_a_pattern_with_one_distance_more_than_another(self):
        # The place of 1 is 5 less 3 w long: 1, divided by w four times. A window of length 1 has the steps w and w w,
        # so this place has w by itself five times, and six times. The places of the other two have three.
        x = [0, 0, 6, -3]
        self.assertEqual(place(1, x, [1, 0]), [0, 0, 0, 5, -3])
        self.assertEqual(returns(1, x, [1, 0]), [2, 3, 5, 5, 8])
        self.assertEqual([returns(1, x, l)[0] for l in ([0, 1], [1, 1])], [3, 3])
        for m in MS:
            mixed = [x for x in oracle.windows(m)
                     if {returns(m, x, oracle.flat(row))[0] for row in oracle.rows_of_window(m, x, 2)} == {2, 3}]
            self.assertGreater(len(mixed), 0, m)

    def test_a_window_of_length_1(self):
        for m in MS:
            for a, b in ((0, 0),) + oracle.MOVES:
                x = [a, b, a + 1, b]
                self.assertEqual(returns(m, x, []), [2, 0, 1, 1, 1])
                for k in range(13):
                    for pattern in oracle.rows_of_window(m, x, k):
                        met = {walks.way_to_the_next(m, x, z, pattern) for z in walks.starts(m, x, pattern)}
                        self.assertLessEqual(met, set(walks.distances(m, x, pattern)), (m, x, pattern))

    def test_very_short_places(self):
        # This place is as long as 1, divided by w 30 times. A window of length 1 has the steps w and w w, so here it's
        # w by itself 31 times, and 32 times.
        x = [-673135, 416020, 673135, -416020]
        self.assertEqual(returns(1, x, [1, 0]), [2, 832040, 1346269, 1346269, 2178309])
        for m in MS:
            counts = set()
            for x in oracle.tight_windows(m):
                for pattern in oracle.rows_of_window(m, x, 1):
                    if not is_longer(m, place(m, x, oracle.flat(pattern))[1:], 200000):
                        counts.add(returns(m, x, oracle.flat(pattern))[0])
            self.assertEqual(counts, {2, 3}, m)


if __name__ == "__main__":
    unittest.main()
