"""patterns and many: which patterns of k steps there are, and how many (their rows; point 2)."""

import unittest

from tests import oracle
from windowsteps.patterns import many, patterns, place, steps

MS = (1, 2, 3, 4)


def listed(k, answer):
    """The patterns of an answer, each a list as place takes it."""
    return [answer[at:at + 2 * k] for at in range(1, len(answer), 2 * k)] if k else [[]] * answer[0]


def points_of(m, x, count):
    """Points from the one on whose partner is the window's beginning, as far as they may be handed in."""
    points = oracle.row_of_points(m, x, oracle.first_point(m, x), count)
    return [point for point in points if max(map(abs, point)) <= 1000000]


class WorkedOutByHand(unittest.TestCase):
    def test_two_steps(self):
        # In the window from 0 to w: 1 leads on by 1 from below w less 1, w leads back by w less 1 from there on.
        # So w comes behind 1 always, and behind w just from 2 w less 2 on.
        x = [0, 0, 0, 1]
        self.assertEqual(patterns(1, 1, x), [2, 1, 0, 0, 1])
        self.assertEqual(patterns(1, 2, x), [3, 1, 0, 0, 1, 0, 1, 1, 0, 0, 1, 0, 1])

    def test_three_steps(self):
        # Places: 1 from 0 to 1, w from 1 to w, w less 1 from w to 2. They lead on by 1, back by w less 1 and by w.
        x = [0, 0, 2, 0]
        self.assertEqual(patterns(1, 1, x), [3, 1, 0, 0, 1, -1, 1])
        self.assertEqual(patterns(1, 2, x), [4, 1, 0, 0, 1, 1, 0, -1, 1, 0, 1, 1, 0, -1, 1, 1, 0])

    def test_window_of_length_1(self):
        self.assertEqual(patterns(1, 1, [0, 0, 1, 0]), [2, 1, 1, 0, 1])
        self.assertEqual(patterns(1, 2, [0, 0, 1, 0]), [3, 1, 1, 1, 1, 1, 1, 0, 1, 0, 1, 1, 1])
        self.assertEqual(patterns(4, 1, [0, 0, 1, 0]), [2, 1, 1, 0, 1])
        self.assertEqual(patterns(4, 2, [0, 0, 1, 0]), [3, 1, 1, 0, 1, 0, 1, 1, 1, 0, 1, 0, 1])

    def test_how_many(self):
        self.assertEqual([many(1, k, [0, 0, 0, 1]) for k in range(4)], [[1], [2], [3], [4]])
        self.assertEqual([many(1, k, [0, 0, 2, 0]) for k in range(3)], [[1], [3], [4]])


class FoundByTrying(unittest.TestCase):
    def test_patterns(self):
        for m, x in oracle.all_windows():
            for k in range(7):
                rows = oracle.rows_of_window(m, x, k)
                with self.subTest(m=m, k=k, x=x):
                    self.assertEqual(patterns(m, k, x), [len(rows)] + [n for row in rows for n in oracle.flat(row)])

    def test_many(self):
        for m, x in oracle.all_windows():
            for k in range(13):
                with self.subTest(m=m, k=k, x=x):
                    self.assertEqual(many(m, k, x), [len(oracle.rows_of_window(m, x, k))])

    def test_windows_of_all_lengths(self):
        for m in MS:
            for x in oracle.windows_of_all_lengths(m):
                for k in (2, 6):
                    rows = oracle.rows_of_window(m, x, k)
                    with self.subTest(m=m, k=k, x=x):
                        self.assertEqual(patterns(m, k, x), [len(rows)] + [n for row in rows for n in oracle.flat(row)])
                with self.subTest(m=m, k=12, x=x):
                    self.assertEqual(many(m, 12, x), [len(oracle.rows_of_window(m, x, 12))])


class AgreeWithTheOthers(unittest.TestCase):
    def test_the_places_fill_the_window_in_their_order(self):
        for m, x in oracle.all_windows():
            for k in range(7):
                places = [place(m, x, l) for l in listed(k, patterns(m, k, x))]
                with self.subTest(m=m, k=k, x=x):
                    self.assertEqual({answer[0] for answer in places}, {0})
                    self.assertEqual([answer[1:3] for answer in places] + [x[2:]],
                                     [x[:2]] + [answer[3:] for answer in places])
                    for answer in places:
                        self.assertTrue(oracle.below(m, answer[1:3], answer[3:]))

    def test_no_pattern_twice_and_as_many_as_are_told(self):
        for m, x in oracle.all_windows():
            for k in range(7):
                answer = patterns(m, k, x)
                with self.subTest(m=m, k=k, x=x):
                    self.assertEqual(len(answer), 1 + answer[0] * 2 * k)
                    self.assertEqual(len({tuple(l) for l in listed(k, answer)}), answer[0])

    def test_the_steps_from_a_point_on_are_among_them(self):
        tried = 0
        for m, x in oracle.all_windows():
            for k in range(7):
                found = listed(k, patterns(m, k, x))
                for z in points_of(m, x, 60):
                    tried += 1
                    with self.subTest(m=m, k=k, x=x, z=z):
                        self.assertIn(steps(m, k, x, list(z))[1:], found)
        self.assertGreater(tried, 50000)

    def test_many_is_the_first_number_of_patterns(self):
        for m, x in oracle.all_windows():
            for k in range(7):
                self.assertEqual(many(m, k, x), patterns(m, k, x)[:1], (m, k, x))

    def test_many_is_how_often_the_steps_change_on_the_way_through_the_window(self):
        # From the window's beginning on: the pattern of the point there, then of the one at the end of its place.
        for m in MS:
            for x in oracle.windows(m):
                for k in (7, 11, 12):
                    at, count = x[:2], 0
                    while at != x[2:]:
                        l = steps(m, k, x, list(oracle.partner(m, at)))[1:]
                        at = place(m, x, l)[3:]
                        count += 1
                    self.assertEqual(many(m, k, x), [count], (m, k, x))


class WhatHolds(unittest.TestCase):
    def test_k_at_least_and_twice_k_and_1_at_most(self):
        met = set()
        for m, x in oracle.all_windows():
            for k in range(13):
                count = many(m, k, x)[0]
                met.add((k, count))
                self.assertTrue(k <= count <= 2 * k + 1, (m, k, x, count))
        self.assertLessEqual({(k, 2 * k + 1) for k in range(13)}, met)

    def test_a_window_moved_has_the_same_patterns_in_the_same_order(self):
        for m in MS:
            for x in oracle.windows(m):
                for a, b in oracle.MOVES:
                    moved = [x[0] + a, x[1] + b, x[2] + a, x[3] + b]
                    for k in range(7):
                        self.assertEqual(patterns(m, k, moved), patterns(m, k, x), (m, k, x, moved))
                    for k in range(13):
                        self.assertEqual(many(m, k, moved), many(m, k, x), (m, k, x, moved))

    def test_a_window_moved_as_far_as_may_be(self):
        for m in MS:
            for x in oracle.far_windows(m)[:8]:
                home = [0, 0, x[2] - x[0], x[3] - x[1]]
                for k in range(7):
                    self.assertEqual(patterns(m, k, x), patterns(m, k, home), (m, k, x))
                for k in range(13):
                    self.assertEqual(many(m, k, x), many(m, k, home), (m, k, x))


class Corners(unittest.TestCase):
    def test_no_steps_are_one_pattern(self):
        for m, x in oracle.all_windows():
            self.assertEqual(patterns(m, 0, x), [1], (m, x))
            self.assertEqual(many(m, 0, x), [1], (m, x))

    def test_twelve_steps_are_counted(self):
        for m in MS:
            self.assertEqual(many(m, 12, [0, 0, 1, 0]), [13])
        self.assertEqual(many(1, 12, [-1000000, 618034, 1000000, -618033]), [25])
        self.assertEqual(many(1, 13, [0, 0, 1, 0]), [-28])

    def test_six_steps_are_listed_and_seven_are_not(self):
        for m, x in oracle.all_windows():
            self.assertEqual(patterns(m, 6, x)[:1], many(m, 6, x), (m, x))
            self.assertEqual(patterns(m, 7, x), [-28], (m, x))
            self.assertGreater(many(m, 7, x)[0], 0, (m, x))

    def test_a_window_of_length_1_has_one_pattern_more_than_steps(self):
        for m in MS:
            for a, b in ((0, 0),) + oracle.MOVES:
                for k in range(13):
                    self.assertEqual(many(m, k, [a, b, a + 1, b]), [k + 1], (m, k, a, b))

    def test_a_pattern_whose_place_would_be_a_single_end_is_not_among_them(self):
        # Two steps fill these windows; the two together would have a place with no length.
        self.assertNotIn([1, 2], listed(1, patterns(1, 1, [0, 0, 1, 0])))
        self.assertNotIn([1, 1], listed(1, patterns(1, 1, [0, 0, 0, 1])))
        self.assertNotIn([0, 1, 1, 0, 1, 0], listed(3, patterns(1, 3, [0, 0, 0, 1])))


if __name__ == "__main__":
    unittest.main()
