"""Promise 4: run."""

import unittest

from helper import LARGEST, last, make, run


class Run(unittest.TestCase):
    def test_straight_seams(self):
        table = make([0, 4, 10], [0, 4], [2] * 6)
        for k, m in ((1, 0), (1, 1), (7, 3), (64, 64)):
            with self.subTest(k=k, m=m):
                self.assertEqual(last(table, run(k, m)), [0, 10])

    def test_seams_outwards(self):
        # At the lower edge 3 4 5 and 6 8 10, at the upper edge 4 and 8 straight along.
        table = make([0, 4, 12], [0, 40], [0, 3, 9, 5, 5, 5])
        self.assertEqual(last(table, run(3, 0)), [0, 15])
        self.assertEqual(last(table, run(3, 3)), [0, 12])

    def test_seams_upwards(self):
        # At station 0 the chords are 10 and 26, so mark 1 of 2 lies at 8 / 26 of the second; at station 1
        # they are 26 and 10, so it lies at 18 / 26 of the first: (96 / 13, 170 / 13), (96 / 13, 90 / 13).
        table = make([0, 12], [0, 10, 20], [0, 24, 0, 0, 24, 0])
        # The root of 12^2 + (80 / 13)^2 is 13.48..
        self.assertEqual(last(table, run(2, 1)), [0, 13])

    def test_lengths_are_rounded_one_by_one(self):
        # Each root is 1.414..; together they are 4.24..
        self.assertEqual(last(make([0, 1, 2, 3], [0, 9], [0, 1, 2, 3, 0, 0, 0, 0]), run(1, 0)), [0, 3])
        self.assertEqual(last(make([0, 2, 4, 6], [0, 9], [0, 2, 4, 6, 0, 0, 0, 0]), run(1, 0)), [0, 9])

    def check_middle(self, along, upper, length):
        """Mark 1 of 2 lies at 0 at station 0, at half of upper at station 1, both as high."""
        with self.subTest(along=along, upper=upper):
            self.assertEqual(last(make([0, along], [0, 40], [0, 0, 0, upper]), run(2, 1)), [0, length])
            self.assertEqual(last(make([0, along], [0, 40], [0, 0, upper, 0]), run(2, 1)), [0, length])

    def test_in_the_middle_the_even_one_below(self):
        self.check_middle(2, 3, 2)
        self.check_middle(6, 5, 6)
        self.check_middle(4, 15, 8)

    def test_in_the_middle_the_even_one_above(self):
        self.check_middle(6, 9, 8)
        self.check_middle(18, 15, 20)
        self.check_middle(14, 21, 18)

    def test_beside_the_middle(self):
        # The squares are 5, 7.25, 55.25 and 58; those of the middles are 6.25 and 56.25.
        self.check_middle(2, 2, 2)
        self.check_middle(1, 5, 3)
        self.check_middle(7, 5, 7)
        self.check_middle(7, 6, 8)

    def test_in_the_middle_with_all_three_differences(self):
        # At station 1 the chords are 1 and 5. Of 4 planks mark 3 lies at (1, 3), then at (14 / 5, 31 / 10):
        # 9 + 81 / 25 + 1 / 100 is the square of 3.5.
        table = make([0, 3], [0, 1, 4], [1, 0, 1, 0, 1, 4])
        self.assertEqual(last(table, run(4, 3)), [0, 4])
        # Mark 1 lies at (5, 1), then at (2 / 5, 13 / 10): 9 + 529 / 25 + 9 / 100 is the square of 5.5.
        table = make([0, 3], [0, 1, 4], [5, 0, 5, 0, 5, 4])
        self.assertEqual(last(table, run(4, 1)), [0, 6])

    def test_several_bays(self):
        # Mark 1 of 2 lies at 0, 3 / 2, 0, 9 / 2: 2.5, 2.5 and 7.5 are taken as 2, 2 and 8.
        table = make([0, 2, 4, 10], [0, 40], [0, 0, 0, 0, 0, 3, 0, 9])
        self.assertEqual(last(table, run(2, 1)), [0, 12])

    def test_ends_of_the_measures(self):
        table = make([0, LARGEST], [-LARGEST, LARGEST], [0, LARGEST, LARGEST, 0])
        # The root of 2 times the square of the largest measure is 1482908.98..
        self.assertEqual(last(table, run(1, 0)), [0, 1482909])
        self.assertEqual(last(table, run(1, 1)), [0, 1482909])
        self.assertEqual(last(table, run(2, 1)), [0, LARGEST])


if __name__ == "__main__":
    unittest.main()
