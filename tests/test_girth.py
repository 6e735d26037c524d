"""Promise 2: girth."""

import unittest

from helper import LARGEST, ask, girth, last, make, one_station_table


class Girth(unittest.TestCase):
    def check(self, corners, length):
        with self.subTest(corners=corners):
            self.assertEqual(last(one_station_table(corners), girth(0)), [0, length])

    def test_whole_roots(self):
        self.check([(0, 0), (3, 4)], 5)
        self.check([(3, 0), (0, 4)], 5)
        self.check([(7, -4), (7, -3)], 1)
        self.check([(0, -5), (12, 0), (12, 2), (8, 5)], 13 + 2 + 5)

    def test_roots_below_the_middle(self):
        self.check([(0, 0), (1, 1)], 1)
        self.check([(0, 0), (4, 2)], 4)
        self.check([(0, 0), (1048574, 353434)], 1106536)
        self.check([(1048563, -LARGEST), (0, 1373511 - LARGEST)], 1728009)

    def test_roots_above_the_middle(self):
        self.check([(0, 0), (2, 2)], 3)
        self.check([(3, 0), (0, 2)], 4)
        self.check([(LARGEST, -LARGEST), (0, 1396394 - LARGEST)], 1746261)
        self.check([(0, 0), (1048574, 782541)], 1308388)

    def test_ends_of_the_measures(self):
        self.check([(0, -LARGEST), (LARGEST, LARGEST)], 2344685)
        self.check([(LARGEST, -LARGEST), (0, LARGEST)], 2344685)
        self.check([(LARGEST, -LARGEST), (LARGEST, LARGEST)], 2 * LARGEST)
        self.check([(0, -LARGEST), (LARGEST, 0), (0, LARGEST)], 2 * 1482909)

    def test_each_chord_is_rounded_by_itself(self):
        # Each root is 1.414..; together they are 4.24.., but the girth is 1 + 1 + 1.
        self.check([(0, 0), (1, 1), (2, 2), (3, 3)], 3)
        self.check([(0, 0), (2, 2), (4, 4), (6, 6)], 9)

    def test_every_station_has_its_own(self):
        table = make([0, 5, 6], [0, 4, 8], [0, 0, 9, 3, 0, 6, 0, 0, 9])
        self.assertEqual(ask(table, girth(0), girth(1), girth(2))[1:], [[0, 10], [0, 8], [0, 10]])


if __name__ == "__main__":
    unittest.main()
