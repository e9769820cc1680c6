"""Promise [9]: units, their parents and children, and which is within which."""

import itertools
import unittest

from tests.values import ANY, NO_NUMBERS, NO_SEQUENCES, caught, same
from tests.worlds import GREAT, SMALL, cells, unit_row
from whatmovesbuy.errors import NoUnit, Refused
from whatmovesbuy.pictures import children, is_within, parent, units

WORLDS = SMALL + GREAT
SIZES, PAGES = (1, 2, 6), (0, 2, 3)
# each of them no unit of these: no level, no multiple of the size, a place in no page
NO_UNITS = (
    (3, 0), (10 ** 31, 0), (-1, 0), (True, 2), (False, 0), (None, 0), ("0", 0), ((0,), 0), ([], 0),
    (1, 1), (1, 13), (2, 1), (2, 2), (2, 15), (0, -1), (1, -2), (2, -6), (0, True), (0, False), (0, None), (0, "0"),
    (0, (0,)), (0, []), (0, 6), (0, 11), (1, 6), (1, 10), (2, 6), (0, 24), (1, 24), (2, 24), (0, 10 ** 31),
    (2, 6 * 10 ** 30), (None, None), ("", []), (3, -1), (4, 1),
)


class Units(unittest.TestCase):
    def test_counted_among_all_cells(self):
        for sizes, pages in WORLDS:
            for level in range(len(sizes)):
                told = tuple(unit_row(sizes, pages, level))
                self.assertTrue(same(units(sizes, pages, level), told))
                self.assertTrue(same(units(level=level, pages=list(pages), sizes=list(sizes)), told))

    def test_gaps_and_great_numbers(self):
        self.assertEqual(units((1, 2, 6), (0, 3), 1), (0, 2, 4, 18, 20, 22))
        self.assertEqual(units((1, 2, 6), (0, 3), 2), (0, 18))
        self.assertEqual(units((2, 4), (10 ** 31,), 0), (4 * 10 ** 31, 4 * 10 ** 31 + 2))
        self.assertEqual(units((5,), (1, 10 ** 31), 0), (5, 5 * 10 ** 31))
        self.assertEqual(units((1, 2, 6), (), 0), ())

    def test_no_level(self):
        for level in NO_NUMBERS + (3, 4, 6, 10 ** 31):
            self.assertIs(caught(Refused, units, SIZES, PAGES, level).value, level)
        self.assertEqual(caught(Refused, units, (5,), (), 1).value, 1)


class ParentsAndChildren(unittest.TestCase):
    def test_of_each_unit(self):
        for sizes, pages in WORLDS:
            for level in range(len(sizes)):
                for place in unit_row(sizes, pages, level):
                    self.check_unit(sizes, pages, level, place)

    def check_unit(self, sizes, pages, level, place):
        within = cells(place, sizes[level])
        below = () if level == 0 else tuple(cell for cell in sorted(within) if cell % sizes[level - 1] == 0)
        self.assertTrue(same(children(sizes, pages, level, place), below))
        above = None
        if level + 1 < len(sizes):
            about = [start for start in unit_row(sizes, pages, level + 1) if within <= cells(start, sizes[level + 1])]
            self.assertEqual(len(about), 1)
            above = (level + 1, about[0])
        self.assertTrue(same(parent(sizes, pages, level, place), above))

    def test_told(self):
        self.assertEqual(children((1, 2, 6), (0, 3), 2, 18), (18, 20, 22))
        self.assertEqual(children((1, 2, 6), (0, 3), 1, 20), (20, 21))
        self.assertEqual(children((1, 2, 6), (0, 3), 0, 20), ())
        self.assertEqual(parent((1, 2, 6), (0, 3), 0, 21), (1, 20))
        self.assertEqual(parent((1, 2, 6), (0, 3), 1, 22), (2, 18))
        self.assertIsNone(parent((1, 2, 6), (0, 3), 2, 18))
        self.assertIsNone(parent((7,), (2,), 0, 14))
        self.assertEqual(children((7,), (2,), 0, 14), ())
        self.assertEqual(children((2, 4), (10 ** 31,), 1, 4 * 10 ** 31), (4 * 10 ** 31, 4 * 10 ** 31 + 2))
        self.assertEqual(parent((2, 4), (10 ** 31,), 0, 4 * 10 ** 31 + 2), (1, 4 * 10 ** 31))
        self.assertEqual(parent(place=21, level=0, pages=[0, 3], sizes=[1, 2, 6]), (1, 20))
        self.assertEqual(children(place=20, level=1, pages=[0, 3], sizes=[1, 2, 6]), (20, 21))

    def test_no_unit(self):
        for value in NO_UNITS:
            with self.subTest(value):
                for call in (parent, children):
                    self.assertTrue(same(caught(NoUnit, call, SIZES, PAGES, *value).value, value))
        for one, other in itertools.product(ANY[:-1], repeat=2):
            if not any(same((one, other), unit) for unit in ((0, 0), (0, 1), (1, 0))):
                self.assertTrue(same(caught(NoUnit, parent, SIZES, PAGES, one, other).value, (one, other)))
                self.assertTrue(same(caught(NoUnit, children, SIZES, PAGES, one, other).value, (one, other)))
        self.assertEqual(caught(NoUnit, children, SIZES, (), 0, 0).value, (0, 0))
        self.assertEqual(caught(NoUnit, parent, (3, 6), (0,), 0, 1).value, (0, 1))


class Within(unittest.TestCase):
    def test_each_two_units(self):
        for sizes, pages in SMALL:
            row = [(level, place) for level in range(len(sizes)) for place in unit_row(sizes, pages, level)]
            for one, other in itertools.product(row, repeat=2):
                inner, outer = cells(one[1], sizes[one[0]]), cells(other[1], sizes[other[0]])
                self.assertIs(is_within(sizes, pages, one, other), inner <= outer)
                # of two units one is within the other, or no cell is in both
                self.assertEqual(bool(inner & outer), inner <= outer or outer <= inner)

    def test_told(self):
        self.assertIs(is_within(SIZES, PAGES, (0, 13), (2, 12)), True)
        self.assertIs(is_within(SIZES, PAGES, (2, 12), (0, 13)), False)
        self.assertIs(is_within(SIZES, PAGES, (2, 12), (0, 12)), False)
        self.assertIs(is_within(SIZES, PAGES, (1, 12), [1, 12]), True)
        self.assertIs(is_within(SIZES, PAGES, [1, 14], (1, 12)), False)
        self.assertIs(is_within(SIZES, PAGES, [0, 17], [2, 18]), False)
        self.assertIs(is_within(other=(2, 18), one=(1, 20), pages=[0, 2, 3], sizes=[1, 2, 6]), True)

    def test_no_unit(self):
        wrong = NO_UNITS + NO_SEQUENCES + ((), (0,), (0, 0, 0), [0], [1, 12, 2], ((0, 0),), "00", {0: 0, 1: 0})
        wrong += tuple(list(value) for value in NO_UNITS)
        for value in wrong:
            with self.subTest(value):
                self.assertIs(caught(NoUnit, is_within, SIZES, PAGES, value, (0, 0)).value, value)
                self.assertIs(caught(NoUnit, is_within, SIZES, PAGES, (0, 0), value).value, value)
                self.assertIs(caught(NoUnit, is_within, SIZES, PAGES, value, None).value, value)
        for value in ANY:
            self.assertIs(caught(NoUnit, is_within, SIZES, PAGES, value, (0, 0)).value, value)

    def test_the_left_one_is_told(self):
        self.assertEqual(caught(NoUnit, is_within, SIZES, PAGES, (0, 6), (9, 9)).value, (0, 6))
        self.assertEqual(caught(NoUnit, is_within, SIZES, PAGES, (0, 5), (9, 9)).value, (9, 9))


if __name__ == "__main__":
    unittest.main()
