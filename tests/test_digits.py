"""Promise [7]: digits."""

import itertools
import unittest

from tests.values import ANY, NO_NUMBERS, NO_SEQUENCES, caught, same
from whatmovesbuy.errors import NoRoom, Refused
from whatmovesbuy.sizes import check_digits, digits, minus, number_of, plus, ratios

ALL_SIZES = ((1,), (5,), (1, 2), (2, 6), (1, 2, 4), (1, 3, 6), (2, 4, 12, 24), (1, 2, 4, 8, 16))
PAGES = 4


def all_rows(sizes):
    """All digits that tell at most some pages less a cell, found by trying."""
    below = [range(ratio) for ratio in ratios(sizes)]
    return list(itertools.product(*below, range(PAGES)))


class Digits(unittest.TestCase):
    def test_each_multiple_has_one_row(self):
        for sizes in ALL_SIZES:
            told = {}
            for row in all_rows(sizes):
                told.setdefault(sum(digit * size for digit, size in zip(row, sizes)), []).append(row)
            self.assertEqual(sorted(told), list(range(0, PAGES * sizes[-1], sizes[0])))
            for number, rows in told.items():
                self.assertEqual(len(rows), 1)
                self.assertTrue(same(digits(sizes, number), rows[0]))
                self.assertTrue(same(digits(list(sizes), number), rows[0]))
                self.assertEqual(number_of(sizes, rows[0]), number)
                self.assertEqual(number_of(sizes, list(rows[0])), number)
                self.assertTrue(same(check_digits(sizes, list(rows[0])), rows[0]))

    def test_great_numbers(self):
        for sizes in ALL_SIZES:
            number = 10 ** 30 * sizes[-1] + (sizes[-1] - sizes[0])
            row = digits(sizes, number)
            self.assertEqual(row[-1], number // sizes[-1])
            self.assertEqual(number_of(sizes, row), number)
        self.assertEqual(digits(number=17, sizes=(1, 3, 6)), (2, 1, 2))
        self.assertEqual(digits((7,), 21), (3,))

    def test_no_number_of_cells(self):
        for sizes in ALL_SIZES:
            for value in NO_NUMBERS:
                self.assertIs(caught(Refused, digits, sizes, value).value, value)
        for number in (1, 2, 4, 10 ** 31):
            self.assertEqual(caught(Refused, digits, (3, 6), number).value, number)

    def test_no_digits(self):
        wrong = ((), (0,), (0, 0), (0, 0, 0, 0), (3, 0, 0), (0, 2, 0), (0, 2, 5), (-1, 0, 0), (0, -1, 0), (0, 0, -1),
                 (True, 0, 0), (0, False, 0), (0, 0, True), (None, 0, 0), (0, "1", 0), (0, 0, []), (0, 0, None),
                 ((0, 0, 0),), ["0", 0, 0], (9, 9, "9")) + NO_SEQUENCES
        for value in wrong:
            for call, rest in ((check_digits, ()), (number_of, ()), (plus, (None,)), (minus, (9,))):
                with self.subTest(value):
                    self.assertIs(caught(Refused, call, (1, 3, 6), value, *rest).value, value)
        for value in ANY:
            self.assertIs(caught(Refused, check_digits, (1, 3, 6), value).value, value)

    def test_digits_at_their_greatest(self):
        self.assertEqual(check_digits((1, 3, 6), [2, 1, 10 ** 31]), (2, 1, 10 ** 31))
        self.assertEqual(check_digits(value=[3], sizes=[5]), (3,))
        self.assertEqual(number_of(row=(2, 1, 2), sizes=(1, 3, 6)), 17)


class PlusAndMinus(unittest.TestCase):
    def test_they_undo_one_another(self):
        for sizes in ALL_SIZES:
            for row in all_rows(sizes):
                for level, size in enumerate(sizes):
                    more, last = plus(sizes, row, level)
                    self.assertTrue(same(more, digits(sizes, number_of(sizes, row) + size)))
                    self.assertTrue(same(minus(sizes, more, level), (row, last)))
                    self.assertTrue(same(minus(list(sizes), list(more), level), (row, last)))

    def test_last(self):
        for sizes in ALL_SIZES:
            for row in all_rows(sizes):
                for level in range(len(sizes)):
                    more, last = plus(sizes, row, level)
                    changed = [at for at in range(len(sizes)) if more[at] != row[at]]
                    self.assertEqual(changed, list(range(level, last + 1)))
                    self.assertEqual(more[last], row[last] + 1)
                    self.assertEqual([more[at] for at in range(level, last)], [0] * (last - level))
                    if last < len(sizes) - 1:
                        self.assertLess(row[last] + 1, ratios(sizes)[last])

    def test_none_to_break_exactly_with_fewer_cells(self):
        for sizes in ALL_SIZES:
            for row in all_rows(sizes):
                for level, size in enumerate(sizes):
                    if number_of(sizes, row) < size:
                        self.assertEqual(caught(NoRoom, minus, sizes, row, level).size, size)
                    else:
                        less, broken = minus(sizes, row, level)
                        self.assertTrue(same(less, digits(sizes, number_of(sizes, row) - size)))
                        self.assertTrue(same(plus(sizes, less, level), (row, broken)))
        self.assertEqual(caught(NoRoom, minus, (1, 3, 6), (2, 1, 0), 2).size, 6)
        self.assertEqual(caught(NoRoom, minus, (1, 3, 6), (0, 0, 0), 0).size, 1)

    def test_no_level(self):
        for call in (plus, minus):
            for level in NO_NUMBERS + (3, 4, 6, 10 ** 31):
                self.assertIs(caught(Refused, call, (1, 3, 6), (0, 0, 0), level).value, level)
            self.assertEqual(caught(Refused, call, (5,), (2,), 1).value, 1)

    def test_by_names_and_arguments_stay(self):
        row = [2, 1, 2]
        self.assertEqual(plus(level=0, row=row, sizes=(1, 3, 6)), ((0, 0, 3), 2))
        self.assertEqual(minus(level=1, row=row, sizes=(1, 3, 6)), ((2, 0, 2), 1))
        self.assertEqual(row, [2, 1, 2])

    def test_from_left_to_right(self):
        for call in (plus, minus):
            self.assertEqual(caught(Refused, call, (1, 2), (2, 0), -1).value, (2, 0))
            self.assertEqual(caught(Refused, call, (1, 2), (0, 0), -1).value, -1)


if __name__ == "__main__":
    unittest.main()
