"""Many tables, from a written seed, against the document's words done with fractions."""

import random
import unittest

from helper import LARGEST, TAKEN, Told, ask, flat, girth, make, mark, piece, run, width


def rising(source, count, least, most):
    return sorted(source.sample(range(least, most + 1), count))


def some_table(source, size):
    stations = source.choice((2, 2, 3, 5, 24))
    levels = source.choice((2, 2, 3, 4, 16))
    places = rising(source, stations, 0, max(size, 24))
    heights = rising(source, levels, -max(size, 16), max(size, 16))
    return places, heights, [source.randint(0, size) for number in range(stations * levels)]


class AsTold(unittest.TestCase):
    def check(self, size, tables, seed):
        source = random.Random(seed)
        for number in range(tables):
            table = some_table(source, size)
            told = Told(*table)
            calls = []
            expected = []
            for turn in range(6):
                i = source.randrange(len(table[0]))
                k = source.choice((1, 2, 3, 4, 7, 10, 64, source.randint(1, 64)))
                m = source.randint(0, k)
                calls.extend([girth(i), mark(i, k, m), run(k, m)])
                expected.extend([told.girth(i), told.mark(i, k, m), told.run(k, m)])
                p = source.randrange(k)
                calls.extend([width(i, k, p), piece(k, p), flat(k, p)])
                expected.extend([told.width(i, k, p), told.piece(k, p), told.flat(k, p)])
            with self.subTest(size=size, number=number, table=table):
                self.assertEqual(ask(make(*table), *calls), [TAKEN] + expected)

    def test_small_tables(self):
        self.check(1, 60, 5)
        self.check(3, 100, 1)
        self.check(9, 100, 2)

    def test_middling_tables(self):
        self.check(500, 60, 3)

    def test_large_tables(self):
        self.check(LARGEST, 60, 4)


if __name__ == "__main__":
    unittest.main()
