"""What holds over the whole program (point 2): patterns, places and points, as the eight calls tell them."""

import itertools
import unittest

from tests import oracle, walks
from windowsteps.patterns import again, alike, many, patterns, place, returns, share, steps

MS = (1, 2, 3, 4)


def patterns_there_are(m, k, x):
    """As patterns tells them; where it tells no more, as steps does from where place says that the next one begins."""
    if k <= 6:
        told = patterns(m, k, x)
        return [told[at:at + 2 * k] for at in range(1, len(told), 2 * k)] if k else [[]]
    found, at = [], x[:2]
    while at != x[2:]:
        found.append(steps(m, k, x, list(oracle.partner(m, at)))[1:])
        at = place(m, x, found[-1])[3:]
    return found


class PatternsPlacesPoints(unittest.TestCase):
    def test_a_point_has_a_pattern_just_if_its_partner_lies_in_the_place(self):
        tried = 0
        for m in MS:
            for x in walks.windows_with_points(m):
                points = walks.points_near_and_far(m, x)
                for k in range(13):
                    rows = {z: steps(m, k, x, list(z))[1:] for z in points}
                    for pattern in oracle.rows_of_window(m, x, k):
                        l = oracle.flat(pattern)
                        span = place(m, x, l)[1:]
                        for z in points:
                            tried += 1
                            has = oracle.is_point(m, z, span)
                            self.assertEqual(rows[z] == l, has, (m, x, z, l))
                            if not has:
                                self.assertEqual(again(m, x, list(z), l), [-2], (m, x, z, l))
        self.assertGreater(tried, 100000)

    def test_the_places_of_all_patterns_fill_the_window(self):
        for m in MS:
            for x in oracle.windows(m):
                for k in range(13):
                    told = patterns_there_are(m, k, x)
                    with self.subTest(m=m, x=x, k=k):
                        self.assertEqual(told, [oracle.flat(row) for row in oracle.rows_of_window(m, x, k)])
                        self.assertEqual([len(told)], many(m, k, x))
                        self.assertTrue(k <= len(told) <= 2 * k + 1)
                        places = [place(m, x, l)[1:] for l in told]
                        self.assertEqual([x[:2]] + [span[2:] for span in places],
                                         [span[:2] for span in places] + [x[2:]])

    def test_the_places_of_rows_found_by_trying_fill_windows_told_by_large_numbers(self):
        for m, x in oracle.most_windows():
            for k in range(13):
                places = [place(m, x, oracle.flat(row))[1:] for row in oracle.rows_of_window(m, x, k)]
                self.assertEqual([x[:2]] + [span[2:] for span in places], [span[:2] for span in places] + [x[2:]])
                self.assertEqual([len(places)], many(m, k, x))

    def test_points_are_alike_just_if_one_place_has_both(self):
        for m in MS:
            for x in oracle.windows(m):
                points = walks.points_near_and_far(m, x)
                for k in (0, 1, 4, 12):
                    places = [place(m, x, oracle.flat(row))[1:] for row in oracle.rows_of_window(m, x, k)]
                    home = {z: [at for at, span in enumerate(places) if oracle.is_point(m, z, span)] for z in points}
                    for z, y in itertools.product(points, repeat=2):
                        self.assertEqual(len(home[z]), 1)
                        self.assertEqual(alike(m, k, x, list(z), list(y)), [int(home[z] == home[y])], (m, k, x, z, y))


class HowOften(unittest.TestCase):
    def test_from_one_point_with_a_pattern_to_the_next_again_and_again(self):
        # The ways are those that returns tells; and by again no point that has the pattern is passed over.
        for m in MS:
            for x in oracle.windows(m)[::2]:
                start = oracle.first_point(m, x)
                row = list(itertools.islice(walks.walk(m, x, start), 300))
                points = list(itertools.accumulate(row, oracle.add, initial=start))
                for k in (0, 1, 2, 6, 12):
                    l = oracle.flat(row[:k])
                    wanted = [points[at] for at in range(len(row) - k + 1) if oracle.flat(row[at:at + k]) == l]
                    told = [start]
                    while len(told) < len(wanted):
                        told.append(tuple(again(m, x, list(told[-1]), l)[1:]))
                        self.assertEqual(alike(m, k, x, list(start), list(told[-1])), [1])
                    with self.subTest(m=m, x=x, k=k):
                        self.assertEqual(told, wanted)
                        ways = {oracle.sub(after, before) for before, after in zip(told, told[1:])}
                        self.assertLessEqual(ways, set(oracle.pairs(returns(m, x, l)[1:])))

    def test_a_pattern_comes_as_often_as_all_that_go_on_from_it(self):
        # The places of the patterns with one step more lie side by side in its own.
        for m in MS:
            for x in oracle.windows(m):
                for k in (0, 1, 2, 6, 11):
                    longer = oracle.rows_of_window(m, x, k + 1)
                    for pattern in oracle.rows_of_window(m, x, k):
                        parts = [place(m, x, oracle.flat(row)) for row in longer if row[:k] == pattern]
                        whole = place(m, x, oracle.flat(pattern))
                        self.assertEqual([whole[1:3], whole[3:]], [parts[0][1:3], parts[-1][3:]], (m, x, pattern))
                        shares = [share(m, x, oracle.flat(row)) for row in longer if row[:k] == pattern]
                        self.assertEqual(oracle.sum_of_shares(shares),
                                         oracle.sum_of_shares([share(m, x, oracle.flat(pattern))]), (m, x, pattern))


if __name__ == "__main__":
    unittest.main()
