"""Promise 1: make."""

import unittest

from helper import (INT_LEAST, INT_MOST, LARGEST, TAKEN, ask, flat, girth, last, make, mark, piece, plain_table, run,
                    width)

# Station 0 has the chord 5, station 1 the chord 4.
SMALL = make([0, 10], [0, 4], [0, 0, 3, 0])
ASKED = [girth(0), girth(1), girth(2), mark(0, 4, 1), run(1, 1), width(0, 1, 0), piece(1, 0), flat(1, 0)]
NO_TABLE = [[-3]] * len(ASKED)


class Taken(unittest.TestCase):
    def test_table_is_taken(self):
        self.assertEqual(ask(SMALL, girth(0), girth(1)), [TAKEN, [0, 5], [0, 4]])

    def test_half_breadths_lie_level_by_level(self):
        table = make([0, 1, 2], [0, 4], [0, 0, 7, 0, 3, 7])
        self.assertEqual(ask(table, girth(0), girth(1), girth(2)), [TAKEN, [0, 4], [0, 5], [0, 4]])
        self.assertEqual(ask(table, mark(2, 1, 0), mark(1, 1, 1))[1:], [[0, 7, 1, 0, 1], [0, 3, 1, 4, 1]])

    def test_second_table_takes_the_place_of_the_first(self):
        other = make([0, 3, 5], [-2, 0, 6], [9, 9, 9, 9, 9, 9, 9, 1, 9])
        given = ask(SMALL, other, girth(0), girth(1), girth(2), run(1, 0))
        self.assertEqual(given, [TAKEN, TAKEN, [0, 8], [0, 12], [0, 8], [0, 5]])
        self.assertEqual(ask(other, SMALL, girth(0), girth(2)), [TAKEN, TAKEN, [0, 5], [-4]])

    def test_first_place_need_not_be_0(self):
        self.assertEqual(ask(make([7, 9], [3, 4], [1, 1, 1, 1]), run(1, 0)), [TAKEN, [0, 2]])


class Sizes(unittest.TestCase):
    def test_stations(self):
        for stations, answer in ((0, [0, 2, 0]), (1, [0, 2, 0]), (2, TAKEN), (3, TAKEN), (23, TAKEN), (24, TAKEN),
                                 (25, [0, 2, 0]), (100, [0, 2, 0])):
            with self.subTest(stations=stations):
                self.assertEqual(last(make(*plain_table(stations, 2))), answer)

    def test_levels(self):
        for levels, answer in ((0, [0, 2, 1]), (1, [0, 2, 1]), (2, TAKEN), (3, TAKEN), (15, TAKEN), (16, TAKEN),
                               (17, [0, 2, 1]), (100, [0, 2, 1])):
            with self.subTest(levels=levels):
                self.assertEqual(last(make(*plain_table(2, levels))), answer)

    def test_largest_table(self):
        self.assertEqual(ask(make(*plain_table(24, 16)), girth(23), girth(24)), [TAKEN, [0, 15], [-4]])

    def test_counts_of_half_breadths(self):
        for count, answer in ((0, [0, 1, 0]), (1, [0, 1, 1]), (5, [0, 1, 5]), (6, TAKEN), (7, [0, 1, 7]),
                              (700, [0, 1, 700])):
            with self.subTest(count=count):
                self.assertEqual(last(make([0, 1, 2], [0, 1], [1] * count)), answer)

    def test_empty_lists(self):
        self.assertEqual(last(make([], [], [])), [0, 2, 0])
        self.assertEqual(last(make([0, 1], [], [])), [0, 2, 1])
        self.assertEqual(last(make([0, 1], [0, 1], [])), [0, 1, 0])
        self.assertEqual(last(make([], [0, 1], [1, 1])), [0, 2, 0])


class Measures(unittest.TestCase):
    def check(self, rows):
        for places, heights, half_breadths, answer in rows:
            with self.subTest(places=places, heights=heights, half_breadths=half_breadths):
                self.assertEqual(last(make(places, heights, half_breadths)), answer)

    def test_places(self):
        heights = [0, 1]
        six = [1] * 6
        self.check([
            ([0, 1, 2], heights, six, TAKEN),
            ([-1, 1, 2], heights, six, [0, 3, 0]),
            ([-LARGEST, 1, 2], heights, six, [0, 3, 0]),
            ([INT_LEAST, 1, 2], heights, six, [0, 3, 0]),
            ([0, 1, LARGEST], heights, six, TAKEN),
            ([0, 1, LARGEST + 1], heights, six, [0, 3, 2]),
            ([0, 1, INT_MOST], heights, six, [0, 3, 2]),
            ([LARGEST - 2, LARGEST - 1, LARGEST], heights, six, TAKEN),
            ([LARGEST + 1, 1, 2], heights, six, [0, 3, 0]),
            ([0, 0, 2], heights, six, [0, 3, 1]),
            ([0, 2, 2], heights, six, [0, 3, 2]),
            ([0, 2, 1], heights, six, [0, 3, 2]),
            ([2, 1, 3], heights, six, [0, 3, 1]),
            ([5, 0, 1], heights, six, [0, 3, 1]),
            ([5, -1, 1], heights, six, [0, 3, 1]),
            ([3, 2, -1], heights, six, [0, 3, 1]),
        ])

    def test_heights(self):
        places = [0, 1]
        six = [1] * 6
        self.check([
            (places, [-LARGEST, 0, LARGEST], six, TAKEN),
            (places, [-LARGEST - 1, 0, LARGEST], six, [0, 4, 0]),
            (places, [INT_LEAST, 0, LARGEST], six, [0, 4, 0]),
            (places, [-LARGEST, 0, LARGEST + 1], six, [0, 4, 2]),
            (places, [-LARGEST, 0, INT_MOST], six, [0, 4, 2]),
            (places, [-3, -2, -1], six, TAKEN),
            (places, [-1, 0, 1], six, TAKEN),
            (places, [-1, -1, 1], six, [0, 4, 1]),
            (places, [-1, 1, 1], six, [0, 4, 2]),
            (places, [-1, -2, 1], six, [0, 4, 1]),
            (places, [-1, 3, 2], six, [0, 4, 2]),
            (places, [3, -LARGEST - 1, 2], six, [0, 4, 1]),
            (places, [LARGEST + 1, LARGEST + 2, LARGEST + 3], six, [0, 4, 0]),
        ])

    def test_half_breadths(self):
        places = [0, 1]
        heights = [0, 1]
        self.check([
            (places, heights, [0, 0, 0, 0], TAKEN),
            (places, heights, [LARGEST] * 4, TAKEN),
            (places, heights, [4, 3, 3, 2], TAKEN),
            (places, heights, [-1, 0, 0, 0], [0, 5, 0]),
            (places, heights, [0, -1, 0, 0], [0, 5, 1]),
            (places, heights, [0, 0, 0, -1], [0, 5, 3]),
            (places, heights, [0, 0, -LARGEST, -1], [0, 5, 2]),
            (places, heights, [0, LARGEST + 1, 0, -1], [0, 5, 1]),
            (places, heights, [0, 0, 0, LARGEST + 1], [0, 5, 3]),
            (places, heights, [0, 0, INT_LEAST, 0], [0, 5, 2]),
            (places, heights, [0, 0, INT_MOST, 0], [0, 5, 2]),
        ])

    def test_last_numbers_of_the_largest_table(self):
        places, heights, half_breadths = plain_table(24, 16)
        self.assertEqual(last(make(places[:-1] + [22], heights, half_breadths)), [0, 3, 23])
        self.assertEqual(last(make(places, heights[:-1] + [14], half_breadths)), [0, 4, 15])
        self.assertEqual(last(make(places, heights, half_breadths[:-1] + [-1])), [0, 5, 383])


class Order(unittest.TestCase):
    def test_first_fault_is_answered(self):
        wrong = [5, 5]
        for places, heights, half_breadths, answer in (
            ([-1], [5], [-1], [0, 2, 0]),
            ([-1] * 25, [5] * 17, [-1], [0, 2, 0]),
            ([-1, -1], [5], [-1], [0, 2, 1]),
            ([-1, -1], [5] * 17, [-1], [0, 2, 1]),
            ([-1, -1], wrong, [-1] * 3, [0, 1, 3]),
            (wrong, wrong, [-1] * 5, [0, 1, 5]),
            (wrong, wrong, [-1] * 4, [0, 3, 1]),
            ([5, 6], wrong, [-1] * 4, [0, 4, 1]),
            ([5, 6], [5, 6], [1, -1, -1, 1], [0, 5, 1]),
        ):
            with self.subTest(places=places, heights=heights, half_breadths=half_breadths):
                self.assertEqual(last(make(places, heights, half_breadths)), answer)


class AsItWas(unittest.TestCase):
    faults = (
        make([0], [0, 1], [1, 1]),
        make([0, 1], [0], [1, 1]),
        make([0, 1, 2], [0, 1, 2], [1] * 8),
        make([0, 1, 1], [0, 1], [1] * 6),
        make([0, 1, 2], [0, 0], [1] * 6),
        make([0, 1, 2], [0, 1], [1, 1, 1, 1, 1, -1]),
    )

    def test_behind_a_fault_with_no_table(self):
        for fault in self.faults:
            with self.subTest(fault=fault):
                self.assertEqual(ask(fault, *ASKED)[1:], NO_TABLE)

    def test_behind_a_fault_with_a_table(self):
        before = ask(SMALL, *ASKED)[1:]
        self.assertEqual(before, [[0, 5], [0, 4], [-4], [0, 3, 4, 1, 1], [0, 10], [0, 5], [0, 10, 10, 11, 5, 4],
                                  [0, 0]])
        for fault in self.faults:
            with self.subTest(fault=fault):
                self.assertEqual(ask(SMALL, fault, *ASKED)[2:], before)

    def test_a_table_is_taken_behind_faults(self):
        self.assertEqual(ask(*self.faults, SMALL, *ASKED)[6:], ask(SMALL, *ASKED))


if __name__ == "__main__":
    unittest.main()
