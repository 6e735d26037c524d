"""What is refused, in which order, and that a refusal leaves the object as it was."""

import unittest

from helper import INT_LEAST, INT_MOST, ask, flat, girth, last, make, mark, piece, run, width

# Stations 0, 1 and 2.
TABLE = make([0, 4, 9], [0, 4], [0, 0, 1, 3, 0, 1])


class NoTable(unittest.TestCase):
    def test_ahead_of_all_else(self):
        for call in (girth(0), girth(-1), girth(99), mark(0, 1, 0), mark(0, 0, 0), mark(-1, 1, 0), mark(-1, 65, -1),
                     run(1, 0), run(0, 0), run(1, 2), run(65, -1),
                     width(0, 1, 0), width(0, 0, 0), width(-1, 1, 0), width(99, 1, 0), width(-1, 65, -1),
                     piece(1, 0), piece(0, 0), piece(1, 1), piece(65, -1),
                     flat(1, 0), flat(0, 0), flat(1, 1), flat(65, -1)):
            with self.subTest(call=call):
                self.assertEqual(last(call), [-3])

    def test_a_table_ends_it(self):
        self.assertEqual(ask(girth(0), TABLE, girth(0), run(1, 0)), [[-3], [0, 0, 0], [0, 5], [0, 9]])
        self.assertEqual(ask(width(0, 1, 0), TABLE, width(0, 1, 0)), [[-3], [0, 0, 0], [0, 5]])
        self.assertEqual(ask(piece(1, 0), TABLE, piece(1, 0)), [[-3], [0, 0, 0], [0, 4, 5, 6, 5, 5, 6, 5, 4, 4]])
        self.assertEqual(ask(flat(1, 0), TABLE, flat(1, 0)), [[-3], [0, 0, 0], [0, 1]])

    def test_a_table_that_is_not_taken_does_not_end_it(self):
        wrong = make([0, 4, 4], [0, 4], [0, 0, 1, 3, 0, 1])
        given = ask(wrong, girth(0), mark(0, 1, 0), run(1, 0), width(0, 1, 0), piece(1, 0), flat(1, 0))
        self.assertEqual(given, [[0, 3, 2]] + [[-3]] * 6)


class Edges(unittest.TestCase):
    def check(self, call, refusal):
        with self.subTest(call=call):
            given = last(TABLE, call)
            if refusal is None:
                self.assertEqual(given[0], 0)
                self.assertGreater(len(given), 1)
            else:
                self.assertEqual(given, [refusal])

    def test_planks(self):
        for k, refusal in ((INT_LEAST, -1), (-1, -1), (0, -1), (1, None), (2, None), (63, None), (64, None),
                           (65, -1), (INT_MOST, -1)):
            self.check(mark(0, k, 0), refusal)
            self.check(run(k, 0), refusal)
            self.check(width(0, k, 0), refusal)
            self.check(piece(k, 0), refusal)
            self.check(flat(k, 0), refusal)

    def test_marks(self):
        for k in (1, 5, 64):
            for m, refusal in ((INT_LEAST, -1), (-1, -1), (0, None), (1, None), (k - 1, None), (k, None),
                               (k + 1, -1), (INT_MOST, -1)):
                self.check(mark(0, k, m), refusal)
                self.check(run(k, m), refusal)

    def test_mark_of_no_planks(self):
        for k in (-1, 0, 65):
            self.check(mark(0, k, k), -1)
            self.check(run(k, k), -1)

    def test_each_plank(self):
        for k in (1, 2, 5, 63, 64):
            for p, refusal in ((INT_LEAST, -1), (-k, -1), (-1, -1), (0, None), (k - 1, None), (k, -1), (k + 1, -1),
                               (64, -1), (INT_MOST, -1)):
                self.check(width(0, k, p), refusal)
                self.check(piece(k, p), refusal)
                self.check(flat(k, p), refusal)

    def test_plank_of_no_planks(self):
        for k in (INT_LEAST, -1, 0, 65, INT_MOST):
            for p in (k - 1, k, -1, 0, 1, 64):
                if INT_LEAST <= p:
                    self.check(width(0, k, p), -1)
                    self.check(piece(k, p), -1)
                    self.check(flat(k, p), -1)

    def test_stations(self):
        for i, refusal in ((INT_LEAST, -4), (-3, -4), (-1, -4), (0, None), (1, None), (2, None), (3, -4),
                           (INT_MOST, -4)):
            self.check(girth(i), refusal)
            self.check(mark(i, 3, 1), refusal)
            self.check(width(i, 3, 1), refusal)

    def test_planks_ahead_of_stations(self):
        for i in (-1, 3):
            for k, m in ((0, 0), (65, 0), (3, -1), (3, 4), (65, 66)):
                self.check(mark(i, k, m), -1)
        for i in (INT_LEAST, -1, 3, INT_MOST):
            for k, p in ((0, 0), (65, 0), (3, -1), (3, 3), (65, 65), (64, 64), (1, 1)):
                self.check(width(i, k, p), -1)

    def test_stations_of_the_largest_and_the_smallest_table(self):
        for stations in (2, 24):
            table = make(list(range(stations)), [0, 1], [1] * (2 * stations))
            given = ask(table, width(-1, 1, 0), width(0, 1, 0), width(stations - 1, 1, 0), width(stations, 1, 0))
            self.assertEqual(given[1:], [[-4], [0, 1], [0, 1], [-4]])


class AsItWas(unittest.TestCase):
    def test_behind_refusals(self):
        asked = [girth(0), girth(1), girth(2), mark(1, 3, 2), run(5, 2), run(1, 1),
                 width(2, 3, 1), piece(1, 0), piece(3, 2), flat(1, 0), flat(3, 1)]
        refused = {-4: [girth(-1), girth(3), mark(3, 1, 1), width(-1, 1, 0), width(3, 64, 63)],
                   -1: [mark(0, 0, 0), run(65, 0), run(3, 4), width(0, 65, 0), width(3, 1, 1), piece(0, 0),
                        piece(1, 1), flat(65, 0), flat(64, -1)]}
        before = ask(TABLE, *asked)[1:]
        self.assertEqual([answer[0] for answer in before], [0] * len(asked))
        for number, calls in refused.items():
            for call in calls:
                with self.subTest(call=call):
                    given = ask(TABLE, call, *asked)
                    self.assertEqual(given[1], [number])
                    self.assertEqual(given[2:], before)

    def test_behind_refusals_with_no_table(self):
        self.assertEqual(ask(girth(0), mark(0, 1, 0), run(1, 0), girth(0)), [[-3]] * 4)
        self.assertEqual(ask(width(0, 1, 0), piece(1, 0), flat(1, 0), width(0, 1, 0)), [[-3]] * 4)


if __name__ == "__main__":
    unittest.main()
