"""The interface: how calls and answers lie in their lists, and what is not done with them."""

import contextlib
import io
import unittest

from hullplanks.planks import answers
from helper import INT_LEAST, INT_MOST, LARGEST, girth, make, mark, plain_table, run

SMALL = make([0, 10], [0, 4], [0, 0, 3, 0])


class FrozenList(list):
    """A list that tells of every try to change it, even if it were changed back."""

    def refuse(self, *args, **kwargs):
        raise AssertionError("the list that was handed in is changed")

    __setitem__ = __delitem__ = __iadd__ = __imul__ = refuse
    append = clear = extend = insert = pop = remove = reverse = sort = refuse


class Lists(unittest.TestCase):
    def test_one_call(self):
        self.assertEqual(answers([2, 0]), [1, -3])
        self.assertEqual(answers([1, 0, 0, 0]), [3, 0, 2, 0])

    def test_calls_one_behind_another(self):
        calls = [2, 0,
                 1, 2, 0, 10, 2, 0, 4, 4, 0, 0, 3, 0,
                 2, 0,
                 3, 0, 4, 1,
                 4, 1, 1,
                 3, 2, 1, 1,
                 1, 1, 0, 0, 2, 7, 7,
                 4, 0, 0,
                 2, 1]
        self.assertEqual(answers(calls), [1, -3,
                                          3, 0, 0, 0,
                                          2, 0, 5,
                                          5, 0, 3, 4, 1, 1,
                                          2, 0, 10,
                                          1, -4,
                                          3, 0, 2, 0,
                                          1, -1,
                                          2, 0, 4])

    def test_refused_calls_are_read_whole(self):
        self.assertEqual(answers(mark(4, 4, 4) + run(2, 2) + girth(1)), [1, -3] * 3)
        self.assertEqual(answers(SMALL + mark(4, 0, 2) + run(0, 2) + girth(1)), [3, 0, 0, 0, 1, -1, 1, -1, 2, 0, 4])

    def test_ends_of_the_whole_numbers(self):
        ends = [INT_LEAST, INT_MOST]
        self.assertEqual(answers(make(ends, ends, ends * 2)), [3, 0, 3, 0])
        self.assertEqual(answers(make([0, INT_MOST], ends, ends * 2)), [3, 0, 3, 1])
        self.assertEqual(answers(make([0, 1], ends, ends * 2)), [3, 0, 4, 0])
        self.assertEqual(answers(make([0, 1], [0, INT_MOST], ends * 2)), [3, 0, 4, 1])
        self.assertEqual(answers(make([0, 1], [0, 1], ends * 2)), [3, 0, 5, 0])
        self.assertEqual(answers(make([0, 1], [0, 1], [0, 0, 0, INT_MOST])), [3, 0, 5, 3])
        for end in ends:
            with self.subTest(end=end):
                self.assertEqual(answers(SMALL + girth(end))[4:], [1, -4])
                self.assertEqual(answers(SMALL + mark(end, end, end))[4:], [1, -1])
                self.assertEqual(answers(SMALL + mark(end, 1, 1))[4:], [1, -4])
                self.assertEqual(answers(SMALL + run(end, 0) + run(1, end))[4:], [1, -1, 1, -1])

    def test_longest_lists(self):
        table = make([n * (LARGEST // 23) for n in range(24)],
                     [n * (LARGEST // 8) - LARGEST for n in range(16)],
                     [(n * 7919 * 131) % (LARGEST + 1) for n in range(384)])
        given = answers(table * 20 + run(63, 31) * 280)
        self.assertEqual(given[:80], [3, 0, 0, 0] * 20)
        self.assertEqual(given[80:], given[80:83] * 280)
        rows = make([1] * 100, [1] * 100, [1] * 95)
        self.assertEqual(answers(rows * 100), [3, 0, 2, 0] * 100)

    def test_kinds(self):
        given = answers(SMALL + girth(0) + mark(0, 4, 1) + run(1, 0) + girth(9))
        self.assertIs(type(given), list)
        self.assertEqual({type(number) for number in given}, {int})


class NothingElse(unittest.TestCase):
    calls = SMALL + girth(0) + mark(0, 4, 1) + run(3, 1) + make(*plain_table(3, 3)) + run(3, 1) + girth(7)

    def test_what_is_handed_in_is_unchanged(self):
        handed = list(self.calls)
        answers(handed)
        self.assertEqual(handed, self.calls)
        self.assertEqual(answers(FrozenList(self.calls)), answers(self.calls))

    def test_nothing_is_kept(self):
        first = answers(list(self.calls))
        self.assertEqual(answers(list(self.calls)), first)
        self.assertEqual(answers(girth(0)), [1, -3])
        first.append(9)
        self.assertEqual(answers(list(self.calls)), first[:-1])

    def test_nothing_is_printed(self):
        printed = io.StringIO()
        with contextlib.redirect_stdout(printed), contextlib.redirect_stderr(printed):
            answers(list(self.calls))
        self.assertEqual(printed.getvalue(), "")


if __name__ == "__main__":
    unittest.main()
