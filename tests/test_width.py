"""Promise 5: width."""

import unittest

from helper import LARGEST, ask, last, make, one_station_table, width


class Width(unittest.TestCase):
    def check(self, corners, rows):
        table = one_station_table(corners)
        for k, p, length in rows:
            with self.subTest(corners=corners, k=k, p=p):
                self.assertEqual(last(table, width(0, k, p)), [0, length])

    def test_within_one_chord(self):
        self.check([(0, 0), (30, 40)], [(1, 0, 50), (2, 0, 25), (2, 1, 25), (5, 0, 10), (5, 2, 10), (5, 4, 10)])
        self.check([(30, -20), (0, 20)], [(1, 0, 50), (2, 1, 25), (5, 3, 10)])
        self.check([(7, 0), (7, 128)], [(64, 0, 2), (64, 31, 2), (64, 63, 2)])

    def test_within_one_of_several_chords(self):
        # The chords are 50 and 50: of 5 planks all but the middle one lie within one chord.
        self.check([(0, 0), (30, 40), (0, 80)], [(5, 0, 20), (5, 1, 20), (5, 3, 20), (5, 4, 20)])

    def test_up_to_a_corner(self):
        self.check([(0, 0), (30, 40), (0, 80)], [(2, 0, 50), (2, 1, 50), (4, 1, 25), (4, 2, 25)])

    def test_over_a_corner_straight(self):
        # The middle plank of 5 goes from (24, 32) to (24, 48); along the chords it would be 20.
        self.check([(0, 0), (30, 40), (0, 80)], [(5, 2, 16)])
        # Of 3 it goes from 100 / 3 to 200 / 3 of 100: from (20, 80 / 3) to (20, 160 / 3), 26.67 high.
        self.check([(0, 0), (30, 40), (0, 80)], [(3, 1, 27)])

    def test_over_several_corners_straight(self):
        # The chords are 5, 5, 5 and 5; plank 1 of 2 goes from (0, 8) to (0, 16), of 1 from (0, 0) to (0, 16).
        corners = [(0, 0), (3, 4), (0, 8), (3, 12), (0, 16)]
        self.check(corners, [(1, 0, 16), (2, 0, 8), (2, 1, 8), (4, 1, 5)])
        # Plank 1 of 3 goes from 20 / 3 to 40 / 3: from (2, 16 / 3) to (2, 32 / 3), 5.33 high.
        self.check(corners, [(3, 1, 5)])

    def test_one_plank_over_several_levels(self):
        # From (5, -3) to (17, 2), whatever lies between them.
        self.check([(5, -3), (9, 0), (0, 1), (17, 2)], [(1, 0, 13)])
        self.check([(5, -3), (99, 0), (0, 1), (17, 2)], [(1, 0, 13)])
        self.check([(17, -3), (99, 0), (5, 2)], [(1, 0, 13)])

    def test_marks_are_parted_by_chords_not_by_roots(self):
        # The roots are 1.414.. and 3.605.., the chords 1 and 4: plank 0 of 5 is the first chord, the others are a
        # quarter of the second, whose root's quarter is 0.90..
        self.check([(0, 0), (1, 1), (4, 3)], [(5, 0, 1), (5, 1, 1), (5, 4, 1)])
        # Thirds of the root of 2 are 0.47..
        self.check([(0, 0), (1, 1)], [(1, 0, 1), (2, 0, 1), (3, 0, 0), (3, 2, 0), (64, 63, 0)])
        # The root of 8 is 2.83..; its half is 1.41.., though half of the chord is 1.5.
        self.check([(0, 0), (2, 2)], [(1, 0, 3), (2, 0, 1), (2, 1, 1)])

    def test_in_the_middle_the_even_one_below(self):
        # 12.5, 4.5, 2.5 and 0.5.
        self.check([(0, 0), (30, 40)], [(4, 0, 12), (4, 3, 12), (20, 0, 2)])
        self.check([(7, 0), (7, 9)], [(2, 1, 4), (18, 0, 0), (18, 17, 0)])

    def test_in_the_middle_the_even_one_above(self):
        # 7.5, 1.5 and 3.5.
        self.check([(0, 0), (18, 24)], [(4, 0, 8), (4, 2, 8), (20, 19, 2)])
        self.check([(7, 0), (7, 7)], [(2, 0, 4), (2, 1, 4)])

    def test_in_the_middle_over_a_corner(self):
        # The chords are 8 and 4: from (5 / 2, 6) to (0, 12) is 6.5.
        self.check([(4, 0), (2, 8), (0, 12)], [(2, 1, 6)])
        # The chords are 6 and 12: from (39 / 4, 3) to (33 / 4, 5) is 2.5.
        self.check([(6, 0), (11, 4), (0, 8)], [(4, 1, 2)])
        # The chords are 7 and 10: from (5, 0) to (71 / 10, 36 / 5) is 7.5.
        self.check([(5, 0), (8, 6), (2, 14)], [(2, 0, 8)])
        # The chords are 8 and 4: from (6, 3 / 2) to (6, 5) is 3.5.
        self.check([(0, 0), (8, 2), (6, 5)], [(2, 1, 4)])

    def test_beside_the_middle(self):
        # The squares are 6.5 and 6.125, that of 2.5 is 6.25; the squares are 12.125 and 12.5, that of 3.5 is 12.25.
        self.check([(0, 0), (1, 5)], [(2, 0, 3), (2, 1, 3)])
        self.check([(0, 0), (7, 7)], [(4, 0, 2), (4, 3, 2)])
        self.check([(0, 0), (5, 13)], [(4, 0, 3), (4, 2, 3)])
        self.check([(0, 0), (1, 7)], [(2, 0, 4), (2, 1, 4)])

    def test_ends_of_the_measures(self):
        # 2344685.0.. is the root of 5 times the square of the largest measure; a 64th of it is 36635.7..
        self.check([(0, -LARGEST), (LARGEST, LARGEST)], [(1, 0, 2344685), (64, 0, 36636), (64, 63, 36636)])
        self.check([(LARGEST, -LARGEST), (0, LARGEST)], [(1, 0, 2344685), (64, 63, 36636)])
        # The chords are 1482909 each; half of 1482908.98.. is 741454.49..
        self.check([(0, -LARGEST), (LARGEST, 0), (0, LARGEST)],
                   [(1, 0, 2 * LARGEST), (2, 0, 1482909), (2, 1, 1482909), (4, 0, 741454), (3, 1, 2 * LARGEST // 3)])
        self.check([(LARGEST, -LARGEST), (LARGEST, LARGEST)], [(1, 0, 2 * LARGEST), (2, 0, LARGEST)])
        self.check([(0, LARGEST - 1), (0, LARGEST)], [(1, 0, 1), (2, 1, 0)])

    def test_every_station_has_its_own(self):
        table = make([0, 5, 6], [0, 8], [0, 0, 9, 6, 0, 24])
        given = ask(table, width(0, 1, 0), width(1, 1, 0), width(2, 1, 0), width(0, 2, 1), width(2, 2, 0))[1:]
        self.assertEqual(given, [[0, 10], [0, 8], [0, 17], [0, 5], [0, 8]])

    def test_the_place_is_not_in_it(self):
        for places in ([0, 1], [7, LARGEST], [LARGEST - 1, LARGEST]):
            with self.subTest(places=places):
                self.assertEqual(last(make(places, [0, 4], [0, 0, 3, 3]), width(1, 1, 0)), [0, 5])


if __name__ == "__main__":
    unittest.main()
