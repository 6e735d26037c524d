"""Promise 6: piece."""

import unittest

from helper import LARGEST, ask, last, make, piece, run, width

# Of 2 planks mark 1 lies half-way up: at (3, 6), (6, 6) and (11, 6).
THREE = make([0, 4, 16], [0, 12], [0, 0, 1, 6, 12, 21])


class Piece(unittest.TestCase):
    def test_two_stations(self):
        # Lower edge 12 5 13; upper edge 12 16 20; diagonal 12 20 9, 25; the other diagonal would be 12 1 9, 15.03..
        # Widths: 4 9, 9.84..; 15 9, 17.49..
        table = make([0, 12], [0, 9], [0, 5, 4, 20])
        self.assertEqual(last(table, piece(1, 0)), [0, 13, 20, 25, 10, 17])

    def test_two_stations_turned_about(self):
        # The diagonal still begins at the lower mark of the first station: 12 1 9.
        table = make([0, 12], [0, 9], [5, 0, 20, 4])
        self.assertEqual(last(table, piece(1, 0)), [0, 13, 20, 15, 17, 10])

    def test_three_stations_lower_plank(self):
        # Lower edges 4 0 0 and 12 1 0; upper edges 4 3 0 and 12 5 0; diagonals 4 6 6, 9.38.., and 12 11 6, 17.34..
        # Widths: 3 6, 6.70..; 6 6, 8.48..; 10 6, 11.66..
        self.assertEqual(last(THREE, piece(2, 0)), [0, 4, 5, 9, 12, 13, 17, 7, 8, 12])

    def test_three_stations_upper_plank(self):
        # Lower edges 4 3 0 and 12 5 0; upper edges 4 6 0, 7.21.., and 12 9 0; diagonals 4 9 6, 11.53.., and 12 15 6,
        # 20.12..; the widths are as those of the lower plank.
        self.assertEqual(last(THREE, piece(2, 1)), [0, 5, 7, 12, 13, 15, 20, 7, 8, 12])

    def test_over_corners(self):
        # At station 0 the chords are 50 and 50, at station 1 both are 40 straight up. Plank 2 of 5 lies between
        # (24, 32) and (24, 48), then between (0, 32) and (0, 48).
        table = make([0, 7], [0, 40, 80], [0, 0, 30, 0, 0, 0])
        # The edges are 7 24 0; the diagonal is 7 24 16, 29.68..
        self.assertEqual(last(table, piece(5, 2)), [0, 25, 25, 30, 16, 16])
        # Plank 1 lies between (12, 16) and (24, 32), then between (0, 16) and (0, 32); the edges are 7 12 0, 13.89..,
        # and 7 24 0; the diagonal is 7 12 16, 21.18..
        self.assertEqual(last(table, piece(5, 1)), [0, 14, 25, 21, 20, 16])

    def test_edges_that_rise(self):
        # At station 0 the chords are 10 and 26, at station 1 26 and 10: mark 1 of 2 is at (96 / 13, 170 / 13), then
        # at (96 / 13, 90 / 13). The upper edge of plank 0 is the root of 12^2 + (80 / 13)^2, 13.48..; its lower edge
        # is 12 24 0, 26.83..; its diagonal 12 96/13 90/13, 15.69..; its widths are 96/13 170/13, 15.01.., and
        # 216/13 90/13, 18.
        table = make([0, 12], [0, 10, 20], [0, 24, 0, 0, 24, 0])
        self.assertEqual(last(table, piece(2, 0)), [0, 27, 13, 16, 15, 18])

    def test_in_the_middle_the_even_one_below(self):
        # Mark 1 of 2 is at (2, 4), then at (9 / 2, 4). The upper edge is 6 5/2 0, 6.5; the diagonal 6 9/2 4, 8.5.
        table = make([0, 6], [0, 8], [0, 8, 4, 1])
        self.assertEqual(last(table, piece(2, 0)), [0, 10, 6, 8, 4, 5])

    def test_in_the_middle_the_even_one_above(self):
        # Mark 1 of 2 is at (6, 6), then at (21 / 2, 6). The upper edge is 6 9/2 0, 7.5; the diagonal 6 21/2 6, 13.5;
        # the widths are 6 6, 8.48.., and 5/2 6, 6.5.
        table = make([0, 6], [0, 12], [0, 8, 12, 13])
        self.assertEqual(last(table, piece(2, 0)), [0, 10, 8, 14, 8, 6])

    def test_lower_edge_and_widths_in_the_middle(self):
        # Mark 1 of 2 is at (0, 12), (3 / 2, 12), (0, 12) and (9 / 2, 12): the lower edges are 2.5, 2.5 and 7.5.
        # The widths are 0 12, 3/2 12 (12.09..), 0 12 and 9/2 12 (12.81..); the upper edges are 2 3 0 (3.60..) twice,
        # then 6 9 0 (10.81..); the diagonals are 2 3 12 (12.52..), 2 3/2 12 (12.25..) and 6 9 12 (16.15..).
        table = make([0, 2, 4, 10], [0, 24], [0, 0, 0, 0, 0, 3, 0, 9])
        self.assertEqual(last(table, piece(2, 1)), [0, 2, 4, 13, 2, 4, 12, 8, 11, 16, 12, 12, 12, 13])
        # Straight up 5 and 7 high: halves are 2.5 and 3.5.
        self.assertEqual(last(make([0, 9], [0, 5], [4] * 4), piece(2, 0))[-2:], [2, 2])
        self.assertEqual(last(make([0, 9], [0, 7], [4] * 4), piece(2, 1))[-2:], [4, 4])

    def test_ends_of_the_measures(self):
        # The root of 2 times the square of the largest measure is 1482908.98..; of 5 times, 2344685.0..; the
        # diagonal goes along and up, 1 and 2 times the measure.
        table = make([0, LARGEST], [-LARGEST, LARGEST], [0, LARGEST, LARGEST, 0])
        self.assertEqual(last(table, piece(1, 0)), [0, 1482909, 1482909, 2344685, 2344685, 2344685])
        # Now the diagonal goes outwards too: the root of 6 times the square is 2568473.7..
        table = make([0, LARGEST], [-LARGEST, LARGEST], [0, 0, 0, LARGEST])
        self.assertEqual(last(table, piece(1, 0)), [0, LARGEST, 1482909, 2568474, 2 * LARGEST, 2344685])


class LongPiece(unittest.TestCase):
    lower = [0, 5, 0, 9, 9, 25, 60, 55, 64, 80, 45, 40, 24, 33, 33, 28, 12, 3, 8, 43, 27, 18, 2, 2]
    upper = [20, 29, 45, 50, 34, 34, 69, 104, 109, 100, 84, 79, 63, 63, 68, 33, 42, 58, 49, 14, 14, 19, 28, 44]
    bays = [
        (13, 15, 33), (13, 20, 43), (15, 13, 52), (12, 20, 29), (20, 12, 29), (37, 37, 46),
        (13, 37, 46), (15, 13, 56), (20, 15, 39), (37, 20, 16), (13, 13, 37), (20, 20, 27),
        (15, 12, 42), (12, 13, 38), (13, 37, 15), (20, 15, 21), (15, 20, 48), (13, 15, 48),
        (37, 37, 16), (20, 12, 33), (15, 13, 17), (20, 15, 18), (12, 20, 45),
    ]
    widths = [22, 26, 46, 42, 27, 13, 13, 50, 46, 22, 40, 40, 40, 31, 36, 10, 31, 56, 42, 30, 16, 9, 28, 43]

    def test_twenty_four_stations(self):
        # The stations are 12 apart, so that steps outwards of 0, 5, 9, 16 and 35 make edges of 12, 13, 15, 20 and 37.
        table = make([12 * i for i in range(24)], [0, 9], self.lower + self.upper)
        expected = [0] + [number for bay in self.bays for number in bay] + self.widths
        self.assertEqual(len(expected), 1 + 3 * 23 + 24)
        self.assertEqual(last(table, piece(1, 0)), expected)


class WithTheOthers(unittest.TestCase):
    def test_edges_are_seams_and_widths_are_widths(self):
        for k in (1, 2, 3, 7, 64):
            for p in (0, k // 2, k - 1):
                with self.subTest(k=k, p=p):
                    given = ask(THREE, piece(k, p), run(k, p), run(k, p + 1),
                                width(0, k, p), width(1, k, p), width(2, k, p))[1:]
                    found = given[0][1:]
                    self.assertEqual(len(found), 9)
                    self.assertEqual([[0, found[0] + found[3]], [0, found[1] + found[4]]], given[1:3])
                    self.assertEqual([[0, number] for number in found[6:]], given[3:])


if __name__ == "__main__":
    unittest.main()
