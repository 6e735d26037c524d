"""The interface: how calls and answers lie in their lists, and what is not done with them."""

import contextlib
import io
import unittest

from hullplanks.planks import answers
from helper import INT_LEAST, INT_MOST, LARGEST, Told, ask, flat, girth, make, mark, piece, plain_table, run, width

SMALL = make([0, 10], [0, 4], [0, 0, 3, 0])

# The largest table, with measures up to their ends.
LARGE = ([n * (LARGEST // 23) for n in range(24)],
         [n * (LARGEST // 8) - LARGEST for n in range(16)],
         [(n * n * 7919 + n * 131) % (LARGEST + 1) for n in range(384)])


class FrozenList(list):
    """A list that tells of every try to change it, even if it were changed back."""

    def refuse(self, *args, **kwargs):
        raise AssertionError("the list that was handed in is changed")

    __setitem__ = __delitem__ = __iadd__ = __imul__ = refuse
    append = clear = extend = insert = pop = remove = reverse = sort = refuse


class Lists(unittest.TestCase):
    def test_one_call(self):
        self.assertEqual(answers([2, 0]), [1, -3])
        self.assertEqual(answers([1, 0, 0, 0]), [3, 0, 2, 0])

    def test_calls_one_behind_another(self):
        calls = [2, 0,
                 1, 2, 0, 10, 2, 0, 4, 4, 0, 0, 3, 0,
                 2, 0,
                 3, 0, 4, 1,
                 4, 1, 1,
                 3, 2, 1, 1,
                 1, 1, 0, 0, 2, 7, 7,
                 4, 0, 0,
                 2, 1]
        self.assertEqual(answers(calls), [1, -3,
                                          3, 0, 0, 0,
                                          2, 0, 5,
                                          5, 0, 3, 4, 1, 1,
                                          2, 0, 10,
                                          1, -4,
                                          3, 0, 2, 0,
                                          1, -1,
                                          2, 0, 4])

    def test_all_seven_calls(self):
        calls = [5, 0, 1, 0,
                 6, 1, 0,
                 7, 1, 0,
                 1, 2, 0, 12, 2, 0, 9, 4, 0, 5, 4, 20,
                 2, 1,
                 3, 1, 2, 1,
                 4, 1, 1,
                 5, 1, 1, 0,
                 6, 1, 0,
                 7, 1, 0,
                 1, 2, 12, 0, 2, 0, 9, 4, 0, 5, 4, 20,
                 6, 1, 1,
                 5, 2, 1, 0,
                 6, 1, 0,
                 1, 3, 0, 4, 16, 2, 0, 12, 6, 0, 0, 1, 6, 12, 21,
                 6, 2, 1,
                 7, 2, 1,
                 5, 2, 2, 1,
                 4, 2, 2,
                 3, 2, 2, 1,
                 2, 0]
        self.assertEqual(answers(calls), [1, -3,
                                          1, -3,
                                          1, -3,
                                          3, 0, 0, 0,
                                          2, 0, 17,
                                          5, 0, 25, 2, 9, 2,
                                          2, 0, 20,
                                          2, 0, 17,
                                          6, 0, 13, 20, 25, 10, 17,
                                          2, 0, 0,
                                          3, 0, 3, 1,
                                          1, -1,
                                          1, -4,
                                          6, 0, 13, 20, 25, 10, 17,
                                          3, 0, 0, 0,
                                          10, 0, 5, 7, 12, 13, 15, 20, 7, 8, 12,
                                          2, 0, 0,
                                          2, 0, 12,
                                          2, 0, 22,
                                          5, 0, 11, 1, 6, 1,
                                          2, 0, 13])

    def test_length_of_a_piece(self):
        for stations in (2, 3, 23, 24):
            with self.subTest(stations=stations):
                given = answers(make(*plain_table(stations, 2)) + piece(1, 0) + girth(0))
                self.assertEqual(given[:6], [3, 0, 0, 0, 1 + 3 * (stations - 1) + stations, 0])
                self.assertEqual(given[-3:], [2, 0, 1])
                self.assertEqual(len(given), 4 + 1 + given[4] + 3)

    def test_refused_calls_are_read_whole(self):
        self.assertEqual(answers(width(4, 5, 6) + piece(7, 2) + flat(5, 6) + girth(1)), [1, -3] * 4)
        self.assertEqual(answers(SMALL + width(5, 5, 5) + width(7, 7, 6) + piece(6, 6) + flat(7, 7) + girth(1)),
                         [3, 0, 0, 0, 1, -1, 1, -4, 1, -1, 1, -1, 2, 0, 4])
        self.assertEqual(answers(mark(4, 4, 4) + run(2, 2) + girth(1)), [1, -3] * 3)
        self.assertEqual(answers(SMALL + mark(4, 0, 2) + run(0, 2) + girth(1)), [3, 0, 0, 0, 1, -1, 1, -1, 2, 0, 4])

    def test_ends_of_the_whole_numbers(self):
        ends = [INT_LEAST, INT_MOST]
        self.assertEqual(answers(make(ends, ends, ends * 2)), [3, 0, 3, 0])
        self.assertEqual(answers(make([0, INT_MOST], ends, ends * 2)), [3, 0, 3, 1])
        self.assertEqual(answers(make([0, 1], ends, ends * 2)), [3, 0, 4, 0])
        self.assertEqual(answers(make([0, 1], [0, INT_MOST], ends * 2)), [3, 0, 4, 1])
        self.assertEqual(answers(make([0, 1], [0, 1], ends * 2)), [3, 0, 5, 0])
        self.assertEqual(answers(make([0, 1], [0, 1], [0, 0, 0, INT_MOST])), [3, 0, 5, 3])
        for end in ends:
            with self.subTest(end=end):
                self.assertEqual(answers(SMALL + girth(end))[4:], [1, -4])
                self.assertEqual(answers(SMALL + mark(end, end, end))[4:], [1, -1])
                self.assertEqual(answers(SMALL + mark(end, 1, 1))[4:], [1, -4])
                self.assertEqual(answers(SMALL + run(end, 0) + run(1, end))[4:], [1, -1, 1, -1])
                self.assertEqual(answers(SMALL + width(end, end, end) + width(0, end, 0))[4:], [1, -1, 1, -1])
                self.assertEqual(answers(SMALL + width(end, 1, end) + width(end, 1, 0))[4:], [1, -1, 1, -4])
                for call in (piece, flat):
                    self.assertEqual(answers(SMALL + call(end, end) + call(end, 0) + call(1, end))[4:], [1, -1] * 3)

    def test_longest_list(self):
        calls = make(*LARGE) * 70 + piece(64, 31) * 12 + width(23, 64, 63)
        self.assertEqual(len(calls), 30000)
        told = Told(*LARGE)
        expected = [3, 0, 0, 0] * 70 + ([93 + 1] + told.piece(64, 31)) * 12 + [2] + told.width(23, 64, 63)
        self.assertEqual(answers(calls), expected)

    def test_most_calls(self):
        told = Told(*LARGE)
        for call, answer in ((girth(23), told.girth(23)), (mark(23, 63, 31), told.mark(23, 63, 31)),
                             (run(63, 31), told.run(63, 31)), (width(23, 63, 31), told.width(23, 63, 31)),
                             (piece(63, 31), told.piece(63, 31)), (flat(63, 31), told.flat(63, 31))):
            with self.subTest(call=call):
                given = answers(make(*LARGE) + call * 299)
                self.assertEqual(given, [3, 0, 0, 0] + ([len(answer)] + answer) * 299)

    def test_longest_rows(self):
        rows = make([1] * 100, [1] * 100, [1] * 95)
        self.assertEqual(answers(rows * 100), [3, 0, 2, 0] * 100)

    def test_kinds(self):
        given = answers(SMALL + girth(0) + mark(0, 4, 1) + run(1, 0) + girth(9) + width(0, 4, 1) + piece(4, 1)
                        + flat(4, 1) + flat(4, 4))
        self.assertIs(type(given), list)
        self.assertEqual({type(number) for number in given}, {int})


class SeveralTables(unittest.TestCase):
    def test_each_takes_the_place_of_the_one_before(self):
        tables = [([0, 10], [0, 4], [0, 0, 3, 0]), LARGE, ([3, 5, 9], [-2, 0, 6], [9, 9, 9, 9, 9, 9, 9, 1, 9]),
                  ([0, 10], [0, 4], [0, 0, 3, 0])]
        wrong = [make([0], [0, 1], [1, 1]), make([0, 1], [0, 1], [1] * 5), make([0, 1, 1], [0, 1], [1] * 6),
                 make([0, 1], [0, 1], [1, 1, 1, -1])]
        calls = []
        expected = []
        for table, fault, answer in zip(tables, wrong, ([0, 2, 0], [0, 1, 5], [0, 3, 2], [0, 5, 3])):
            told = Told(*table)
            asked = [girth(1), mark(1, 5, 2), run(5, 2), width(1, 5, 2), piece(5, 2), flat(5, 2)]
            told_so = [told.girth(1), told.mark(1, 5, 2), told.run(5, 2), told.width(1, 5, 2), told.piece(5, 2),
                       told.flat(5, 2)]
            calls.extend([make(*table)] + asked + [fault] + asked)
            expected.extend([[0, 0, 0]] + told_so + [answer] + told_so)
        self.assertEqual(ask(*calls), expected)


class NothingElse(unittest.TestCase):
    calls = (SMALL + girth(0) + mark(0, 4, 1) + run(3, 1) + width(1, 3, 2) + piece(3, 0) + flat(3, 1)
             + make(*plain_table(3, 3)) + run(3, 1) + girth(7) + make([5, 5], [0, 1], [0] * 4)
             + width(2, 3, 0) + piece(2, 1) + flat(2, 0) + flat(2, 2))

    def test_what_is_handed_in_is_unchanged(self):
        handed = list(self.calls)
        answers(handed)
        self.assertEqual(handed, self.calls)
        self.assertEqual(answers(FrozenList(self.calls)), answers(self.calls))

    def test_nothing_is_kept(self):
        first = answers(list(self.calls))
        self.assertEqual(answers(list(self.calls)), first)
        self.assertEqual(answers(girth(0)), [1, -3])
        self.assertEqual(answers(piece(3, 0)), [1, -3])
        first.append(9)
        self.assertEqual(answers(list(self.calls)), first[:-1])

    def test_nothing_is_printed(self):
        printed = io.StringIO()
        with contextlib.redirect_stdout(printed), contextlib.redirect_stderr(printed):
            answers(list(self.calls))
        self.assertEqual(printed.getvalue(), "")


if __name__ == "__main__":
    unittest.main()
