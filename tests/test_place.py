"""place: where the partners of all points with a pattern lie (the row of place; points 1 and 2)."""

import itertools
import unittest

from tests import oracle
from windowsteps.patterns import place, steps


def steps_there_may_be(m, x):
    """All steps of many points, and each two of them together: a rare step may be that."""
    points = oracle.row_of_points(m, x, oracle.first_point(m, x), 150)
    seen = list(dict.fromkeys(oracle.steps_between(points)))
    together = [oracle.add(one, other) for one, other in itertools.combinations(seen, 2)]
    return list(dict.fromkeys(seen + together))


class OrdinaryPlaces(unittest.TestCase):
    def test_window_of_length_1(self):
        self.assertEqual(place(1, [0, 0, 1, 0], [1, 1]), [0, 0, 0, -1, 1])
        self.assertEqual(place(1, [0, 0, 1, 0], [0, 1]), [0, -1, 1, 1, 0])
        self.assertEqual(place(4, [0, 0, 1, 0], [1, 1]), [0, 0, 0, -4, 1])
        self.assertEqual(place(4, [0, 0, 1, 0], [0, 1]), [0, -4, 1, 1, 0])

    def test_three_steps_worked_out_by_hand(self):
        x = [0, 0, 2, 0]
        self.assertEqual(place(1, x, [1, 0]), [0, 0, 0, 1, 0])
        self.assertEqual(place(1, x, [0, 1]), [0, 1, 0, 0, 1])
        self.assertEqual(place(1, x, [-1, 1]), [0, 0, 1, 2, 0])

    def test_two_steps_in_a_row_worked_out_by_hand(self):
        # In the window from 0 to w: 1 leads from below w less 1 to below w, w from there on back by w less 1.
        x = [0, 0, 0, 1]
        self.assertEqual(place(1, x, [0, 1]), [0, -1, 1, 0, 1])
        self.assertEqual(place(1, x, [0, 1, 0, 1]), [0, -2, 2, 0, 1])
        self.assertEqual(place(1, x, [0, 1, 1, 0]), [0, -1, 1, -2, 2])
        self.assertEqual(place(1, x, [1, 0, 0, 1]), [0, 0, 0, -1, 1])
        self.assertEqual(place(1, x, [1, 0, 1, 0]), [-33])

    def test_no_steps_are_at_home_in_the_whole_window(self):
        for m in (1, 2, 3, 4):
            for x in oracle.windows(m):
                self.assertEqual(place(m, x, []), [0] + x)

    def test_a_point_has_a_pattern_just_if_its_partner_lies_in_the_place(self):
        for m in (1, 2, 3, 4):
            for x in oracle.windows(m):
                points = oracle.row_of_points(m, x, oracle.first_point(m, x), 53)
                row = oracle.steps_between(points)
                for k in (1, 2, 3, 7, 12):
                    had = {at: tuple(row[at:at + k]) for at in range(40)}
                    for pattern in dict.fromkeys(had.values()):
                        answer = place(m, x, oracle.flat(pattern))
                        with self.subTest(m=m, x=x, pattern=pattern):
                            self.assertEqual((answer[0], len(answer)), (0, 5))
                            for at in range(40):
                                there = oracle.inside(m, oracle.partner(m, points[at]), answer[1:])
                                self.assertEqual(there, had[at] == pattern, points[at])

    def test_a_place_reaches_as_far_as_its_pattern_and_no_further(self):
        # Points with partners at both ends of a place, and by a hair before them.
        for m in (1, 2, 3, 4):
            hair = oracle.power(m, -12)
            for x in oracle.windows(m):
                for k in (1, 2, 6, 12):
                    answer = steps(m, k, x, list(oracle.first_point(m, x)))
                    found = place(m, x, answer[1:])
                    begin, end = tuple(found[1:3]), tuple(found[3:5])
                    for p in (begin, oracle.sub(begin, hair), end, oracle.sub(end, hair)):
                        if oracle.inside(m, p, x):
                            z = oracle.partner(m, p)
                            row = oracle.steps_between(oracle.row_of_points(m, x, z, k + 1))
                            with self.subTest(m=m, x=x, k=k, p=p):
                                self.assertEqual(oracle.flat(row) == answer[1:], oracle.inside(m, p, found[1:]))

    def test_the_places_of_all_patterns_fill_the_window(self):
        for m in (1, 2, 3, 4):
            for x in oracle.windows(m)[::2]:
                known = steps_there_may_be(m, x)
                for k in (1, 2, 3):
                    answers = [place(m, x, oracle.flat(row)) for row in itertools.product(known, repeat=k)]
                    spans = sorted((a[1:] for a in answers if a != [-33]), key=lambda a: oracle.value(m, a[:2]))
                    with self.subTest(m=m, x=x, k=k):
                        self.assertEqual([x[:2]] + [a[2:] for a in spans], [a[:2] for a in spans] + [x[2:]])
                        self.assertTrue(all(oracle.below(m, tuple(a[:2]), tuple(a[2:])) for a in spans))
                        self.assertLessEqual(len(spans), 2 * k + 1)
                        self.assertGreaterEqual(len(spans), k)


class LargeNumbers(unittest.TestCase):
    def test_numbers_as_large_as_may_be(self):
        x = [1000000, -1000000, 1000000, -999999]
        self.assertEqual(place(1, x, []), [0] + x)
        self.assertEqual(place(1, x, [0, 1]), [0, 999999, -999999, 1000000, -999999])
        self.assertEqual(place(1, x, [1000000, -1000000]), [-33])
        self.assertEqual(place(1, x, [-1000000, 1000000]), [-33])

    def test_an_end_may_lie_beyond_what_may_be_handed_in(self):
        # From u on: the step 1 and w has its end at w less 4 from there.
        self.assertEqual(place(4, [-999999, 1000000, -999998, 1000000], [1, 1]),
                         [0, -999999, 1000000, -1000003, 1000001])


class MovedWindows(unittest.TestCase):
    def test_a_window_moved_has_the_same_patterns_as_far_on(self):
        for m in (1, 2, 3, 4):
            for x in oracle.windows(m):
                z = list(oracle.first_point(m, x))
                for a, b in ((1, 0), (-5, 3), (900, -555), (0, 100000)):
                    moved = [x[0] + a, x[1] + b, x[2] + a, x[3] + b]
                    for k in (0, 1, 4, 12):
                        pattern = steps(m, k, x, z)[1:]
                        at = place(m, x, pattern)
                        with self.subTest(m=m, x=x, moved=moved, k=k):
                            self.assertEqual(place(m, moved, pattern),
                                             [0, at[1] + a, at[2] + b, at[3] + a, at[4] + b])


class Corners(unittest.TestCase):
    def test_twelve_steps(self):
        # Each step leads on by 1 round a circle that is w about. The place ends at the first number from 0 on
        # that comes to 0 within 1 to 12 steps: 5 w less 8, after eight.
        pattern = steps(1, 12, [0, 0, 0, 1], [0, 0])[1:]
        self.assertEqual(len(pattern), 24)
        self.assertEqual(place(1, [0, 0, 0, 1], pattern), [0, 0, 0, -8, 5])

    def test_a_step_that_there_is_not(self):
        for m in (1, 2, 3, 4):
            for x in oracle.windows(m):
                known = steps_there_may_be(m, x)
                strange = [(0, 0), (-1, 0), (0, -1), (5, 0), (1, 0), (0, 1), (1, 1), (2, 1), (-m, 1), (1000000, 0)]
                for step in strange:
                    if step not in known:
                        with self.subTest(m=m, x=x, step=step):
                            self.assertEqual(place(m, x, list(step)), [-33])
                            self.assertEqual(place(m, x, oracle.flat([known[0], step])), [-33])
                            self.assertEqual(place(m, x, oracle.flat([step, known[0]])), [-33])

    def test_two_steps_together_are_no_step_where_two_fill_the_window(self):
        self.assertEqual(place(1, [0, 0, 1, 0], [1, 2]), [-33])
        self.assertEqual(place(1, [0, 0, 0, 1], [1, 1]), [-33])
        self.assertEqual(place(1, [0, 0, 0, 1], [1, 1, 0, 1]), [-33])

    def test_a_point_at_the_end_of_a_place(self):
        # The place of step 1 ends at 1, where the place of step w begins: a point whose partner is 1 has w.
        x = [0, 0, 2, 0]
        self.assertEqual(place(1, x, [1, 0])[3:], [1, 0])
        self.assertEqual(place(1, x, [0, 1])[1:3], [1, 0])
        self.assertEqual(steps(1, 1, x, [1, 0]), [1, 0, 1])

    def test_a_pattern_whose_place_would_be_a_single_end_is_had_by_no_point(self):
        # w, then 1, then 1 meet in the one number w less 1 at most, which is no stretch.
        self.assertEqual(place(1, [0, 0, 0, 1], [0, 1, 1, 0, 1, 0]), [-33])


if __name__ == "__main__":
    unittest.main()
