"""Promise 3: mark."""

import unittest

from helper import LARGEST, ask, last, make, mark, one_station_table


class Mark(unittest.TestCase):
    def check(self, corners, rows):
        table = one_station_table(corners)
        for k, m, quotients in rows:
            with self.subTest(corners=corners, k=k, m=m):
                self.assertEqual(last(table, mark(0, k, m)), [0] + quotients)

    def test_ends(self):
        corners = [(2, -3), (5, 1), (5, 7)]
        for k in (1, 2, 3, 63, 64):
            self.check(corners, [(k, 0, [2, 1, -3, 1]), (k, k, [5, 1, 7, 1])])

    def test_y_that_grows(self):
        self.check([(0, 0), (3, 4)], [(4, 1, [3, 4, 1, 1]), (4, 2, [3, 2, 2, 1]), (64, 1, [3, 64, 1, 16])])

    def test_y_that_falls(self):
        self.check([(3, 0), (0, 4)], [(4, 1, [9, 4, 1, 1]), (4, 3, [3, 4, 3, 1]), (3, 3, [0, 1, 4, 1])])

    def test_y_that_stays(self):
        self.check([(7, 0), (7, 4)], [(3, 1, [7, 1, 4, 3]), (8, 1, [7, 1, 1, 2])])

    def test_z_below_0(self):
        self.check([(0, -9), (0, -5)], [(3, 1, [0, 1, -23, 3]), (4, 1, [0, 1, -8, 1]), (8, 1, [0, 1, -17, 2])])
        self.check([(0, -1), (0, 1)], [(2, 1, [0, 1, 0, 1]), (4, 1, [0, 1, -1, 2]), (4, 3, [0, 1, 1, 2])])

    def test_marks_on_corners(self):
        # The chords are 5, 10 and 5.
        corners = [(0, 0), (3, 4), (3, 14), (0, 18)]
        self.check(corners, [(4, 1, [3, 1, 4, 1]), (4, 3, [3, 1, 14, 1]), (2, 1, [3, 1, 9, 1]),
                             (8, 2, [3, 1, 4, 1]), (64, 48, [3, 1, 14, 1])])

    def test_marks_within_chords(self):
        # The girth is 20, so of 3 planks mark 1 lies at 20 / 3: 5 / 3 up the second chord.
        corners = [(0, 0), (3, 4), (3, 14), (0, 18)]
        self.check(corners, [(3, 1, [3, 1, 17, 3]), (3, 2, [3, 1, 37, 3]), (5, 1, [12, 5, 16, 5]),
                             (8, 7, [3, 2, 16, 1]), (64, 63, [3, 16, 71, 4])])

    def test_chords_not_roots_part_the_way(self):
        # The roots are 1.414.. and 3.605.., the chords 1 and 4.
        corners = [(0, 0), (1, 1), (4, 3)]
        self.check(corners, [(5, 1, [1, 1, 1, 1]), (2, 1, [17, 8, 7, 4]), (10, 1, [1, 2, 1, 2]),
                             (64, 13, [259, 256, 129, 128])])

    def test_ends_of_the_measures(self):
        corners = [(0, -LARGEST), (LARGEST, LARGEST)]
        self.check(corners, [(64, 1, [LARGEST, 64, -31 * LARGEST, 32]), (2, 1, [LARGEST, 2, 0, 1])])

    def test_lowest_terms(self):
        self.check([(0, -12), (6, -4)], [(4, 2, [3, 1, -8, 1]), (12, 2, [1, 1, -32, 3]), (12, 9, [9, 2, -6, 1])])

    def test_every_station_has_its_own(self):
        table = make([0, 5, 6], [0, 4], [0, 2, 9, 3, 2, 6])
        given = ask(table, mark(0, 2, 1), mark(1, 2, 1), mark(2, 2, 1))[1:]
        self.assertEqual(given, [[0, 3, 2, 2, 1], [0, 2, 1, 2, 1], [0, 15, 2, 2, 1]])


if __name__ == "__main__":
    unittest.main()
