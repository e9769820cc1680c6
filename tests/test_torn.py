"""Promises [13] and [14]: torn units, and pictures that are loose or smooth."""

import unittest

from tests.test_units_of_pages import NO_UNITS
from tests.values import NO_NUMBERS, caught, same
from tests.worlds import all_worlds, cells, free_set, loose_row, some_worlds, torn_row, unit_row
from whatmovesbuy.errors import NoUnit, Refused
from whatmovesbuy.units import free_children, is_smooth, loose_levels, loose_steps, torn, torn_units

SIZES, PAGES = (1, 2, 6), (0, 2, 3)


def fewest_steps(counts, ratio):
    """How many children must be moved, each from one torn unit to another, found by trying all ways.

    A unit with no free child or with all of them free is torn no more.
    """
    now, steps = {tuple(sorted(counts))}, 0
    while not any(len(row) <= 1 for row in now):
        behind = set()
        for row in now:
            for giver in range(len(row)):
                for taker in range(len(row)):
                    if giver != taker:
                        other = list(row)
                        other[giver] += 1
                        other[taker] -= 1
                        behind.add(tuple(sorted(many for many in other if 0 < many < ratio)))
        now, steps = behind, steps + 1
    return steps


class Torn(unittest.TestCase):
    def test_counted_by_cells(self):
        for sizes, pages, picture in all_worlds(30):
            for level in range(len(sizes) - 1):
                told = tuple(torn_row(sizes, pages, picture, level))
                self.assertTrue(same(torn_units(sizes, pages, picture, level), told))
                self.assertTrue(same(torn(sizes, pages, picture, level), tuple(place for place, many in told)))
                for _, many in told:
                    self.assertIn(many, range(1, sizes[level + 1] // sizes[level]))

    def test_told(self):
        picture = ((0, 1, 0), (3, 2, 4), (5, 1, 19), (6, 2, 20), (7, 1, 23))
        self.assertEqual(torn(SIZES, PAGES, picture, 0), (0, 18, 22))
        self.assertEqual(torn_units(SIZES, PAGES, picture, 0), ((0, 1), (18, 1), (22, 1)))
        self.assertEqual(torn(SIZES, PAGES, picture, 1), (0,))
        self.assertEqual(torn_units(SIZES, PAGES, picture, 1), ((0, 1),))
        self.assertEqual(torn_units(level=1, picture=[[3, 2, 4]], pages=[0], sizes=[1, 2, 6]), ((0, 2),))
        self.assertEqual(torn(level=1, picture=[[3, 2, 4]], pages=[0], sizes=[1, 2, 6]), (0,))
        self.assertEqual(torn((1, 64), (7,), ((0, 1, 448),), 0), (448,))
        self.assertEqual(torn_units((1, 64), (7,), ((0, 1, 448),), 0), ((448, 63),))

    def test_empty_and_full_pages(self):
        for level in range(2):
            for pages, picture in (((), ()), (PAGES, ()), ((0, 2), ((1, 6, 0),)), ((3,), ((1, 2, 18), (2, 2, 20), (3, 2, 22)))):
                self.assertEqual(torn(SIZES, pages, picture, level), ())
                self.assertEqual(torn_units(SIZES, pages, picture, level), ())
                self.assertEqual(loose_steps(SIZES, pages, picture, level), 0)

    def test_no_level(self):
        for call in (torn, torn_units, loose_steps):
            for value in NO_NUMBERS + (2, 3, 6, 10 ** 31):
                self.assertIs(caught(Refused, call, SIZES, PAGES, ((0, 1, 0),), value).value, value)
            for sizes in ((5,), (1, 2), (1, 2, 4, 8), (1, 2, 4, 8, 16)):
                greatest = len(sizes) - 1
                self.assertEqual(caught(Refused, call, sizes, (), (), greatest).value, greatest)
                if greatest > 0:
                    self.assertIn(call(sizes, (), (), greatest - 1), ((), 0))


class FreeChildren(unittest.TestCase):
    def test_counted_by_cells(self):
        for sizes, pages, picture in some_worlds(7):
            free = free_set(sizes, pages, picture)
            for level in range(len(sizes)):
                for place in unit_row(sizes, pages, level):
                    told = () if level == 0 else tuple(
                        start for start in range(place, place + sizes[level], sizes[level - 1])
                        if cells(start, sizes[level - 1]) <= free)
                    self.assertTrue(same(free_children(sizes, pages, picture, level, place), told))

    def test_torn_or_not(self):
        picture = ((0, 1, 0), (3, 2, 4), (5, 6, 18))
        self.assertEqual(free_children(SIZES, PAGES, picture, 2, 0), (2,))
        self.assertEqual(free_children(SIZES, PAGES, picture, 1, 0), (1,))
        self.assertEqual(free_children(SIZES, PAGES, picture, 1, 2), (2, 3))
        self.assertEqual(free_children(SIZES, PAGES, picture, 2, 12), (12, 14, 16))
        self.assertEqual(free_children(SIZES, PAGES, picture, 2, 18), ())
        self.assertEqual(free_children(SIZES, PAGES, picture, 0, 1), ())
        self.assertEqual(free_children(SIZES, PAGES, picture, 0, 0), ())
        self.assertEqual(free_children(place=0, level=1, picture=[[0, 1, 1]], pages=[0], sizes=[1, 2]), (0,))

    def test_no_unit(self):
        for value in NO_UNITS:
            with self.subTest(value):
                told = caught(NoUnit, free_children, SIZES, PAGES, ((0, 6, 0),), *value)
                self.assertTrue(same(told.value, value))


class Loose(unittest.TestCase):
    def test_counted_by_cells(self):
        for sizes, pages, picture in all_worlds(30):
            told = tuple(loose_row(sizes, pages, picture))
            self.assertTrue(same(loose_levels(sizes, pages, picture), told))
            self.assertIs(is_smooth(sizes, pages, picture), told == ())

    def test_told(self):
        one, two = (0, 1, 0), (1, 1, 2)
        self.assertEqual(loose_levels((1, 2), (0, 1), (one,)), ())
        self.assertEqual(loose_levels((1, 2), (0, 1), (one, two)), (0,))
        self.assertEqual(loose_levels((1, 2, 4), (0,), (one, two)), (0,))
        self.assertEqual(loose_levels((1, 2, 4), (0, 1), (one, (1, 1, 4))), (0, 1))
        self.assertEqual(loose_levels((1, 2, 4), (0, 1), ((1, 2, 0), (2, 2, 4))), (1,))
        self.assertEqual(loose_levels(picture=[], pages=[], sizes=[1]), ())
        self.assertIs(is_smooth(picture=[[0, 3, 0]], pages=[0, 1], sizes=[3]), True)
        self.assertIs(is_smooth(picture=[[0, 3, 0], [1, 3, 6]], pages=[0, 1], sizes=[3, 6]), False)

    def test_least_steps(self):
        tried = set()
        for sizes, pages, picture in all_worlds(30):
            for level in range(len(sizes) - 1):
                counts = [many for _, many in torn_row(sizes, pages, picture, level)]
                ratio = sizes[level + 1] // sizes[level]
                if len(counts) <= 5 and ratio <= 5:
                    tried.add((ratio, tuple(sorted(counts))))
                    told = fewest_steps(counts, ratio)
                    self.assertTrue(same(loose_steps(sizes, pages, picture, level), told))
        self.assertGreater(len(tried), 30)

    def check_steps(self, ratio, counts, told):
        """Pages with so many free children each must take so many steps."""
        size = 2 * ratio
        blocks = [(2, page * size + 2 * at) for page, many in enumerate(counts) for at in range(ratio - many)]
        picture = [(handle,) + block for handle, block in enumerate(blocks)]
        self.assertTrue(same(loose_steps((1, 2, size), tuple(range(len(counts))), picture, 1), told), counts)

    def test_steps_told(self):
        for ratio, counts, told in (
                (5, (), 0), (5, (3,), 0), (5, (0, 5), 0), (5, (1, 1), 1), (5, (1, 1, 1), 2), (5, (2, 2), 2), (5, (2, 3), 2),
                (5, (1, 4), 1), (5, (4, 4), 1), (5, (4, 4, 4), 2), (5, (3, 3, 3), 3), (5, (1, 1, 1, 1), 3),
                (5, (4, 1, 1), 1), (5, (4, 4, 2), 2), (5, (0, 4, 5, 3, 0), 1), (5, (4, 1, 1, 4), 2), (2, (1, 1, 1), 1),
                (2, (1, 1, 1, 1), 2), (3, (2, 2, 2), 2), (3, (1, 1), 1), (32, (31, 31, 1), 1), (32, (1,) * 20, 19)):
            self.check_steps(ratio, counts, told)

    def test_each_row_of_counts(self):
        for ratio in (2, 3, 4, 5):
            for first in range(ratio + 1):
                for second in range(ratio + 1):
                    for third in range(ratio + 1):
                        counts = (first, second, third, 1)
                        least = fewest_steps([many for many in counts if 0 < many < ratio], ratio)
                        self.check_steps(ratio, counts, least)


if __name__ == "__main__":
    unittest.main()
