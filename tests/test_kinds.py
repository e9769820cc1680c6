"""Promises [15] and [16]: kinds of pictures; holes and digits."""

import unittest

from tests.values import same
from tests.worlds import all_worlds, digit_row, free_set, hole_row, loose_row, torn_row
from whatmovesbuy.units import free_digits, hole_counts, is_smooth, kind


def told_kind(sizes, pages, picture):
    """The kind, condition by condition as the document tells them."""
    m = len(sizes) - 1
    loose = loose_row(sizes, pages, picture)
    if not loose:
        return "smooth"
    at = torn_row(sizes, pages, picture, loose[0])
    none_below_pages = m < 2 or not torn_row(sizes, pages, picture, m - 2)
    narrow = len(at) == 2 and any(many == 1 for place, many in at)
    if m >= 2 and loose == [m - 1] and narrow and none_below_pages:
        return "page"
    if len(loose) == 1 and loose[0] <= m - 3 and narrow and none_below_pages:
        return "deep"
    return None


def row(*blocks):
    """A picture of blocks (size, place), with handles in this order."""
    return tuple((handle, size, place) for handle, (size, place) in enumerate(blocks))


class Kinds(unittest.TestCase):
    def test_by_conditions(self):
        for sizes, pages, picture in all_worlds():
            self.assertEqual(kind(sizes, pages, picture), told_kind(sizes, pages, picture), (sizes, pages, picture))

    def test_smooth(self):
        self.assertEqual(kind((1,), (), ()), "smooth")
        self.assertEqual(kind((5,), (0, 1), row((5, 0))), "smooth")
        self.assertEqual(kind((1, 2), (0, 1), row((1, 0))), "smooth")
        self.assertEqual(kind((1, 2, 4), (0, 1), row((1, 0), (4, 4))), "smooth")
        self.assertEqual(kind(picture=[[0, 2, 0]], pages=[0, 1], sizes=[1, 2, 4]), "smooth")

    def check(self, sizes, pages, told, *blocks):
        self.assertEqual(kind(sizes, pages, row(*blocks)), told, blocks)

    def test_page(self):
        self.check((1, 2, 6), (0, 1), "page", (2, 0), (2, 2), (2, 6))
        self.check((1, 2, 6), (0, 1), "page", (2, 0), (2, 2), (2, 6), (2, 10))
        self.check((1, 2, 6), (0, 1, 2, 3), "page", (2, 0), (2, 2), (2, 10), (1, 20), (6, 12), (2, 22), (1, 21), (2, 18))
        self.check((1, 2, 4), (3, 9), "page", (1, 12), (1, 13), (2, 38))
        self.check((1, 2, 4, 8, 16), (0, 1), "page", (8, 0), (4, 16), (4, 20))
        # a torn unit two levels below the pages, alone
        self.check((1, 2, 4, 8), (0, 1), "page", (2, 0), (1, 2), (4, 8))

    def test_no_page(self):
        # m is 1
        self.check((2, 6), (0, 1), None, (2, 0), (2, 2), (2, 6))
        # loose lower down, too: neither at m - 1 alone nor lower down alone
        self.check((1, 2, 4, 8), (0, 1), None, (2, 0), (1, 2), (2, 8), (1, 10))
        # three pages are torn
        self.check((1, 2, 6), (0, 1, 2), None, (2, 0), (2, 2), (2, 6), (2, 8), (2, 12), (2, 14))
        # two pages are torn, but none of them has one free child
        self.check((1, 2, 6), (0, 1), None, (2, 0), (2, 6))
        # a unit of level m - 1 is torn
        self.check((1, 2, 6), (0, 1), None, (1, 0), (2, 2), (2, 6), (2, 8))
        self.check((1, 2, 6), (0, 1, 2), None, (2, 0), (2, 2), (2, 6), (2, 8), (1, 12), (2, 14), (2, 16))

    def test_deep(self):
        self.check((1, 2, 4, 8), (0, 1), "deep", (1, 0), (2, 2), (4, 4), (1, 8), (2, 10), (4, 12))
        self.check((1, 2, 4, 8), (0,), "deep", (1, 0), (2, 2), (1, 4), (2, 6))
        self.check((1, 2, 4, 8, 16), (0, 1), "deep", (2, 0), (4, 4), (8, 8), (2, 16), (4, 20), (8, 24))
        self.check((1, 2, 4, 8, 16), (0, 1), "deep", (1, 0), (2, 2), (4, 4), (8, 8), (1, 16), (2, 18), (4, 20), (8, 24))
        self.check((1, 3, 6, 12), (0,), "deep", (1, 0), (3, 3), (1, 6), (1, 7), (3, 9))
        self.check((1, 3, 6, 12), (0,), "deep", (1, 0), (1, 1), (3, 3), (1, 6), (1, 7), (3, 9))
        # a page is torn besides, alone
        self.check((1, 2, 4, 8), (0, 1, 2), "deep", (1, 0), (2, 2), (4, 4), (1, 8), (2, 10))

    def test_not_deep(self):
        # loose at m - 2, so that units of level m - 1 are torn
        self.check((1, 2, 4), (0,), None, (1, 0), (1, 2))
        self.check((1, 2, 4, 8), (0,), None, (2, 0), (2, 4))
        # loose at two levels below m - 2
        self.check((1, 2, 4, 8, 16), (0,), None, (1, 0), (1, 4), (8, 8))
        # loose at m - 1, too
        self.check((1, 2, 4, 8), (0, 1), None, (1, 0), (2, 2), (1, 8), (2, 10))
        # three units are torn
        self.check((1, 2, 4, 8), (0, 1), None, (1, 0), (2, 2), (1, 4), (2, 6), (1, 8), (2, 10), (4, 12))
        # two units are torn, but none of them has one free child
        self.check((1, 3, 6, 12), (0,), None, (1, 0), (3, 3), (1, 6), (3, 9))
        # a unit of level m - 1 is torn
        self.check((1, 2, 4, 8), (0, 1), None, (1, 0), (2, 2), (1, 4), (2, 6), (2, 8), (4, 12))


class HolesAndDigits(unittest.TestCase):
    def test_counted_by_cells(self):
        for sizes, pages, picture in all_worlds():
            found = [level for level, place in hole_row(sizes, pages, picture)]
            told = tuple(found.count(level) for level in range(len(sizes)))
            self.assertTrue(same(hole_counts(sizes, pages, picture), told))
            told = digit_row(sizes, len(free_set(sizes, pages, picture)))
            self.assertTrue(same(free_digits(sizes, pages, picture), told))

    def test_told(self):
        self.assertEqual((hole_counts((1, 2, 6), (), ()), free_digits((1, 2, 6), (), ())), ((0, 0, 0), (0, 0, 0)))
        self.assertEqual(hole_counts((1, 2, 6), (0, 1), ()), (0, 0, 2))
        self.assertEqual(free_digits((1, 2, 6), (0, 1), ()), (0, 0, 2))
        rough = [[0, 1, 0], [1, 1, 6], [2, 1, 8]]
        self.assertEqual(hole_counts(picture=rough, pages=[0, 1, 4], sizes=[1, 2, 6]), (3, 3, 1))
        self.assertEqual(free_digits(picture=rough, pages=[0, 1, 4], sizes=[1, 2, 6]), (1, 1, 2))
        self.assertEqual(hole_counts((5,), (0, 1, 2), ((0, 5, 5),)), (2,))
        self.assertEqual(free_digits((5,), (0, 1, 2), ((0, 5, 5),)), (2,))

    def test_it_holds(self):
        for sizes, pages, picture in all_worlds():
            counts, told = hole_counts(sizes, pages, picture), free_digits(sizes, pages, picture)
            fewer = all(counts[level] < sizes[level + 1] // sizes[level] for level in range(len(sizes) - 1))
            self.assertGreaterEqual(sum(counts), sum(told))
            self.assertEqual(sum(counts) == sum(told), fewer)
            if is_smooth(sizes, pages, picture):
                self.assertEqual(counts, told)
                free = len(free_set(sizes, pages, picture))
                for level, size in enumerate(sizes):
                    self.assertEqual(sum(counts[level:]) > 0, free >= size)


if __name__ == "__main__":
    unittest.main()
