"""Promise 7: flat."""

import unittest
from fractions import Fraction

from helper import LARGEST, Told, ask, flat, last, make, volume


class Counts(unittest.TestCase):
    def check(self, table, rows):
        for k, p, bays in rows:
            with self.subTest(table=table, k=k, p=p):
                self.assertEqual(last(make(*table), flat(k, p)), [0, bays])

    def test_all(self):
        self.check(([0, 1], [0, 1], [0, 0, 0, 0]), [(1, 0, 1), (3, 1, 1), (64, 63, 1)])
        # Each station is as the one before, but farther out.
        self.check(([0, 4, 9, 10], [0, 5, 6], [0, 3, 8, 1, 9, 12, 17, 10, 4, 7, 12, 5]),
                   [(1, 0, 3), (2, 0, 3), (2, 1, 3), (7, 3, 3), (64, 0, 3), (64, 63, 3)])

    def test_none(self):
        # With two levels a plank's direction at a station is that of the one chord.
        self.check(([0, 1], [0, 1], [0, 0, 0, 1]), [(1, 0, 0), (3, 1, 0), (64, 63, 0)])
        self.check(([0, 4, 9, 10], [0, 5], [0, 3, 8, 1, 0, 4, 8, 2]), [(1, 0, 0), (2, 0, 0), (2, 1, 0), (64, 63, 0)])

    def test_some(self):
        # The upper level lies 3, 3, 4, 4, 4, 5 farther out than the lower one.
        self.check(([0, 1, 2, 3, 4, 5], [0, 9], [0, 1, 2, 3, 2, 7, 3, 4, 6, 7, 6, 12]), [(1, 0, 3), (5, 2, 3)])
        # The first bay alone, the last bay alone.
        self.check(([0, 1, 2], [0, 9], [0, 0, 0, 3, 3, 4]), [(1, 0, 1), (5, 2, 1)])
        self.check(([0, 1, 2], [0, 9], [0, 0, 0, 3, 4, 4]), [(1, 0, 1), (5, 2, 1)])

    def test_stations_that_lean_against_each_other(self):
        # As steep, but one inwards and one outwards.
        self.check(([0, 1], [0, 4], [0, 3, 3, 0]), [(1, 0, 0), (2, 1, 0)])
        self.check(([0, 1, 2], [0, 4], [0, 3, 0, 3, 0, 3]), [(1, 0, 0)])

    def test_each_plank_by_itself(self):
        # The chords are 5 and 5 at each station; plank 0 of 2 is the lower, plank 1 the upper one.
        table = ([0, 7, 9, 12], [0, 4, 8], [3, 3, 3, 0, 6, 6, 6, 3, 9, 3, 3, 6])
        self.check(table, [(2, 0, 3), (2, 1, 1)])
        # The one plank of 1 goes straight from (3, 0) to (9, 8), (3, 8), (3, 8), then from (0, 0) to (6, 8).
        self.check(table, [(1, 0, 1), (4, 0, 3), (4, 1, 3), (4, 2, 1), (4, 3, 1)])

    def test_twenty_four_stations(self):
        places = list(range(24))
        self.check((places, [0, 2], [1] * 48), [(1, 0, 23), (9, 8, 23)])
        self.check((places, [0, 2], [1] * 47 + [2]), [(1, 0, 22), (9, 8, 22)])
        self.check((places, [0, 2], [1] * 24 + [1, 2] * 12), [(1, 0, 0), (9, 8, 0)])


class OnePlane(unittest.TestCase):
    def bay(self, table, k, p, bays):
        self.assertEqual(last(make(*table), flat(k, p)), [0, bays])

    def test_edges_that_are_not_parallel(self):
        # At station 0 the chords are 5 and 5, at station 1 5 and 4. Plank 0 of 2 goes from (0, 0) to (3, 4), then
        # from (0, 0) to (27 / 10, 18 / 5): both as steep, but one shorter.
        self.bay(([0, 7], [0, 4, 8], [0, 0, 3, 3, 6, 3]), 2, 0, 1)
        self.bay(([0, 7], [0, 4, 8], [0, 0, 3, 3, 6, 3]), 2, 1, 0)

    def test_edges_that_lean_each_in_its_own_way(self):
        # At station 0 the chords are 5 and 10, at station 1 5 and 8. Plank 0 of 5 goes from (0, 0) to (9 / 5, 12 / 5),
        # then from (2, 0) to (89 / 25, 52 / 25): its edges go 7 2 0 and 7 44/25 -8/25.
        table = ([0, 7], [0, 4, 12], [0, 2, 3, 5, 9, 5])
        lower, upper, next_lower, next_upper = Told(*table).four_marks(0, 5, 0)
        self.assertEqual([b - a for a, b in zip(lower, next_lower)], [7, 2, 0])
        self.assertEqual([b - a for a, b in zip(upper, next_upper)], [7, Fraction(44, 25), Fraction(-8, 25)])
        self.bay(table, 5, 0, 1)
        # Plank 1 goes over the corner at both stations; only at station 0 do both chords lean as the first one.
        self.bay(table, 5, 1, 0)

    def test_over_a_corner_in_one_plane(self):
        # Both chords are as long at each station, so the middle plank stands straight up, however far they lean.
        table = ([0, 7, 8], [0, 40, 80], [0, 9, 30, 30, 0, 0, 0, 9, 30])
        self.bay(table, 5, 2, 2)
        self.bay(table, 5, 1, 0)
        self.bay(table, 1, 0, 2)

    def test_the_whole_girth_in_one_plane(self):
        # From (0, 0) to (6, 9), then from (5, 0) to (11, 9), whatever lies between.
        self.bay(([0, 7], [0, 1, 9], [0, 5, 70, 2, 6, 11]), 1, 0, 1)
        self.bay(([0, 7], [0, 1, 9], [0, 5, 70, 2, 6, 12]), 1, 0, 0)


class HardlyMissed(unittest.TestCase):
    def test_one_sixteenth_at_the_ends_of_the_measures(self):
        for last_one, bays in ((LARGEST, 1), (LARGEST - 1, 0)):
            for k, p in ((1, 0), (64, 31)):
                with self.subTest(last_one=last_one, k=k):
                    table = make([0, 1], [-LARGEST, LARGEST], [0, 0, LARGEST, last_one])
                    self.assertEqual(last(table, flat(k, p)), [0, bays])
                    table = make([0, LARGEST], [-LARGEST, LARGEST], [LARGEST, last_one, 0, 0])
                    self.assertEqual(last(table, flat(k, p)), [0, bays])

    def test_slopes_with_nothing_between(self):
        # Plank 30 of 64 lies on the lower chord at station 0, on the upper one at station 1; these go n - 1 out and
        # n up, then n out and n + 1 up, and (n - 1) * (n + 1) is n * n - 1.
        n = LARGEST - 1
        heights = [-LARGEST, n - LARGEST, 2 * n + 1 - LARGEST]
        self.assertEqual(last(make([0, 1], heights, [0, 0, n - 1, 0, n - 1, n]), flat(64, 30)), [0, 0])
        # Now both go n out and n up.
        heights = [-n, 0, n]
        self.assertEqual(last(make([0, 1], heights, [0, 0, n, 0, n, n]), flat(64, 30)), [0, 1])

    # The chords are as long as they are high. Plank 27 of 57 goes over the corner between them: at station 0, where
    # both stand straight up, it does so too; at stations 1 and 2 the lower one leads 3 out, the upper one 1 back in,
    # and the plank ends nearer in than it began by one part of 57 * 973912 * 1064481.
    heights = [-LARGEST, 973912 - LARGEST, 973912 + 1064481 - LARGEST]
    half_breadths = [0, 0, 5, 0, 3, 8, 0, 2, 7]

    def test_one_part_of_many(self):
        lower, upper, next_lower, next_upper = Told([0, 1, 2], self.heights, self.half_breadths).four_marks(0, 57, 27)
        self.assertEqual(upper[1] - lower[1], 0)
        self.assertEqual(next_upper[1] - next_lower[1], Fraction(-1, 57 * 973912 * 1064481))
        self.assertNotEqual(volume(lower, upper, next_lower, next_upper), 0)
        table = make([0, 1], self.heights, [0, 0, 0, 3, 0, 2])
        self.assertEqual(last(table, flat(57, 27)), [0, 0])

    def test_only_the_bay_in_one_plane_counts(self):
        # Stations 1 and 2 are of one shape, station 0 is not.
        table = make([0, 1, 2], self.heights, self.half_breadths)
        self.assertEqual(ask(table, flat(57, 27), flat(57, 0), flat(57, 56)), [[0, 0, 0], [0, 1], [0, 1], [0, 1]])


class LargeSecondNumbers(unittest.TestCase):
    def test_one_chord_parted_in_two_ways(self):
        # The lower chords are alike, the upper ones are not, so that the marks part the lower ones at other places.
        for upper in (1, 5, 77777, LARGEST - 1):
            for out, bays in ((0, 1), (1, 0)):
                table = ([3, LARGEST - 8], [-LARGEST, 3, LARGEST], [7, 11, 500009, 500013 + out, LARGEST, upper])
                with self.subTest(table=table):
                    marks = Told(*table).four_marks(0, 63, 22)
                    self.assertGreater(min(number.denominator for mark in marks for number in mark[1:]), 10000)
                    self.assertEqual(last(make(*table), flat(63, 22)), [0, bays])

    def test_alike_over_corners(self):
        # Sixteen levels, each station as the one before but farther out: planks go over corners, all lie flat.
        heights = [n * 139810 - LARGEST for n in range(16)]
        breadths = [(n * n * 7919) % 500000 for n in range(16)]
        table = make([0, 5, 77, 1000], heights, [breadth + out for breadth in breadths for out in (0, 1, 99991, 9)])
        for k, p in ((1, 0), (7, 3), (61, 30), (63, 62), (64, 0), (64, 33)):
            with self.subTest(k=k, p=p):
                self.assertEqual(last(table, flat(k, p)), [0, 3])


if __name__ == "__main__":
    unittest.main()
