"""What is refused, in which order, and that a refusal leaves the object as it was."""

import unittest

from helper import INT_LEAST, INT_MOST, ask, girth, last, make, mark, run

# Stations 0, 1 and 2.
TABLE = make([0, 4, 9], [0, 4], [0, 0, 1, 3, 0, 1])


class NoTable(unittest.TestCase):
    def test_ahead_of_all_else(self):
        for call in (girth(0), girth(-1), girth(99), mark(0, 1, 0), mark(0, 0, 0), mark(-1, 1, 0), mark(-1, 65, -1),
                     run(1, 0), run(0, 0), run(1, 2), run(65, -1)):
            with self.subTest(call=call):
                self.assertEqual(last(call), [-3])

    def test_a_table_ends_it(self):
        self.assertEqual(ask(girth(0), TABLE, girth(0), run(1, 0)), [[-3], [0, 0, 0], [0, 5], [0, 9]])


class Edges(unittest.TestCase):
    def check(self, call, refusal):
        with self.subTest(call=call):
            given = last(TABLE, call)
            if refusal is None:
                self.assertEqual(given[0], 0)
                self.assertGreater(len(given), 1)
            else:
                self.assertEqual(given, [refusal])

    def test_planks(self):
        for k, refusal in ((INT_LEAST, -1), (-1, -1), (0, -1), (1, None), (2, None), (63, None), (64, None),
                           (65, -1), (INT_MOST, -1)):
            self.check(mark(0, k, 0), refusal)
            self.check(run(k, 0), refusal)

    def test_marks(self):
        for k in (1, 5, 64):
            for m, refusal in ((INT_LEAST, -1), (-1, -1), (0, None), (1, None), (k - 1, None), (k, None),
                               (k + 1, -1), (INT_MOST, -1)):
                self.check(mark(0, k, m), refusal)
                self.check(run(k, m), refusal)

    def test_mark_of_no_planks(self):
        for k in (-1, 0, 65):
            self.check(mark(0, k, k), -1)
            self.check(run(k, k), -1)

    def test_stations(self):
        for i, refusal in ((INT_LEAST, -4), (-3, -4), (-1, -4), (0, None), (1, None), (2, None), (3, -4),
                           (INT_MOST, -4)):
            self.check(girth(i), refusal)
            self.check(mark(i, 3, 1), refusal)

    def test_planks_ahead_of_stations(self):
        for i in (-1, 3):
            for k, m in ((0, 0), (65, 0), (3, -1), (3, 4), (65, 66)):
                self.check(mark(i, k, m), -1)


class AsItWas(unittest.TestCase):
    def test_behind_refusals(self):
        asked = [girth(0), girth(1), girth(2), mark(1, 3, 2), run(5, 2), run(1, 1)]
        refused = [girth(-1), girth(3), mark(0, 0, 0), mark(3, 1, 1), run(65, 0), run(3, 4)]
        given = ask(TABLE, *refused, *asked)
        self.assertEqual(given[1:7], [[-4], [-4], [-1], [-4], [-1], [-1]])
        self.assertEqual(given[7:], ask(TABLE, *asked)[1:])

    def test_behind_refusals_with_no_table(self):
        self.assertEqual(ask(girth(0), mark(0, 1, 0), run(1, 0), girth(0)), [[-3]] * 4)


if __name__ == "__main__":
    unittest.main()
