"""Promise [6]: sizes, levels, pages. What takes sizes looks at them ahead of all else."""

import unittest

from tests.values import NO_NUMBERS, NO_SEQUENCES, caught, same
from whatmovesbuy import sizes as module
from whatmovesbuy.errors import BadPages, BadSizes, Refused
from whatmovesbuy.sizes import check_pages, check_sizes, need_size, ratios

ALL_SIZES = ((1,), (64,), (5,), (1, 2), (3, 9), (1, 64), (1, 2, 4), (1, 3, 6), (2, 6, 18, 36), (1, 2, 4, 8, 16),
             (4, 8, 16, 32, 64))
# of each: where it is wrong
WRONG_SIZES = (
    ((), -1), ([], -1), ((1, 2, 4, 8, 16, 32), -1), ((0, 0, 0, 0, 0, 0), -1),
    ((0,), 0), ((65,), 0), ((-1,), 0), ((True,), 0), ((None,), 0), (("1",), 0), (((1,),), 0), ((128,), 0),
    ((1, 65), 1), ((1, 0), 1), ((2, 3), 1), ((2, 2), 1), ((4, 2), 1), ((1, True), 1), ((1, None, 0), 1),
    ((1, -1), 1), ((2, 0), 1), ((1, 2, 3), 2), ((1, 2, 2), 2), ((3, 6, 64), 2), ((1, 2, 4, 8, 65), 4),
    ((1, 2, 4, 8, "16"), 4), ((2, 4, 6, 5), 2), ((1, 2, 4, 8, 12), 4), ((1, 2, 4, []), 3), ((0, 65), 0),
)
RIGHT_PAGES = ((), (0,), (7,), (0, 1), (3, 8, 10 ** 31), tuple(range(64)), tuple(range(10 ** 30, 10 ** 30 + 64)))
WRONG_PAGES = (
    (tuple(range(65)), -1), ((None,) * 65, -1), ((-1,), 0), ((True,), 0), ((False, 1), 0), ((None,), 0), (("0",), 0),
    (((),), 0), ((0, 0), 1), ((1, 0), 1), ((0, True), 1), ((0, 1, 1), 2), ((0, 2, 1), 2), ((5, 6, -7, None), 2),
    ((0, 1, "2"), 2), (tuple(range(63)) + (62,), 63),
)
# all that takes sizes, with other arguments that are wrong, too
TAKES_SIZES = {
    "ratios": (), "need_size": (None,), "digits": (-1,), "check_digits": (None,), "number_of": (None,),
    "plus": (None, None), "minus": (None, None), "check_request": (None,), "check_requests": (None,),
    "sizes_octets": (), "request_octets": (None,), "write_requests": (None,), "request_at": (None, None),
    "read_requests": (None,),
}


class Sizes(unittest.TestCase):
    def test_right_sizes(self):
        for row in ALL_SIZES:
            self.assertTrue(same(check_sizes(row), row))
            self.assertTrue(same(check_sizes(list(row)), row))
        self.assertEqual(check_sizes(value=[1, 2]), (1, 2))

    def test_each_size_alone(self):
        for size in range(-2, 67):
            if 1 <= size <= 64:
                self.assertEqual(check_sizes((size,)), (size,))
            else:
                self.assertEqual(caught(BadSizes, check_sizes, (size,)).at, 0)

    def test_each_pair(self):
        for one in range(1, 65):
            for other in range(-1, 67):
                if one < other <= 64 and other % one == 0:
                    self.assertEqual(check_sizes([one, other]), (one, other))
                else:
                    self.assertEqual(caught(BadSizes, check_sizes, [one, other]).at, 1)

    def test_wrong_sizes(self):
        for value, at in WRONG_SIZES:
            with self.subTest(value):
                self.assertEqual(caught(BadSizes, check_sizes, value).at, at)
                self.assertEqual(caught(BadSizes, check_sizes, list(value)).at, at)
        for value in NO_SEQUENCES:
            self.assertEqual(caught(BadSizes, check_sizes, value).at, -1)

    def test_sizes_are_looked_at_first(self):
        for name, rest in TAKES_SIZES.items():
            for value, at in WRONG_SIZES + tuple((value, -1) for value in NO_SEQUENCES):
                with self.subTest(name):
                    self.assertEqual(caught(BadSizes, getattr(module, name), value, *rest).at, at)

    def test_later_changes_have_no_effect(self):
        given = [1, 2, 4]
        told = check_sizes(given)
        given.append(9)
        self.assertEqual(told, (1, 2, 4))

    def test_ratios(self):
        self.assertTrue(same(ratios((7,)), ()))
        self.assertTrue(same(ratios([1, 3, 6]), (3, 2)))
        self.assertTrue(same(ratios(sizes=(1, 2, 6, 24, 48)), (2, 3, 4, 2)))
        for row in ALL_SIZES:
            size = row[0]
            for level, ratio in enumerate(ratios(row)):
                size *= ratio
                self.assertEqual(size, row[level + 1])
            self.assertEqual(len(ratios(row)), len(row) - 1)

    def test_level_of_a_size(self):
        for row in ALL_SIZES:
            for value in range(-1, 67):
                if value in row:
                    self.assertTrue(same(need_size(list(row), value), row.index(value)))
                else:
                    self.assertEqual(caught(Refused, need_size, row, value).value, value)
            for value in NO_NUMBERS:
                self.assertIs(caught(Refused, need_size, row, value).value, value)
        self.assertEqual(need_size(value=6, sizes=(1, 3, 6)), 2)


class Pages(unittest.TestCase):
    def test_right_pages(self):
        for row in RIGHT_PAGES:
            self.assertTrue(same(check_pages(row), row))
            self.assertTrue(same(check_pages(list(row)), row))
        self.assertEqual(check_pages(value=[4]), (4,))

    def test_wrong_pages(self):
        for value, at in WRONG_PAGES:
            with self.subTest(value):
                self.assertEqual(caught(BadPages, check_pages, value).at, at)
                self.assertEqual(caught(BadPages, check_pages, list(value)).at, at)
                self.assertEqual(caught(BadPages, module.pages_octets, value).at, at)
        for value in NO_SEQUENCES:
            self.assertEqual(caught(BadPages, check_pages, value).at, -1)
            self.assertEqual(caught(BadPages, module.pages_octets, value).at, -1)

    def test_later_changes_have_no_effect(self):
        given = [1, 2]
        told = check_pages(given)
        given.pop()
        self.assertEqual(told, (1, 2))


if __name__ == "__main__":
    unittest.main()
