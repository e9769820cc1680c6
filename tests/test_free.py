"""Promise [11]: what is free, counted cell by cell."""

import unittest

from tests.test_units_of_pages import NO_UNITS
from tests.values import NO_NUMBERS, caught, same
from tests.worlds import all_worlds, cells, free_row, free_set, held_set, hole_row, some_worlds, unit_row
from whatmovesbuy.errors import NoUnit, Refused
from whatmovesbuy.pictures import blocks_in, free_cells, free_units, held_cells, holes, is_free, is_within

SIZES, PAGES = (1, 2, 6), (0, 2, 3)


class Cells(unittest.TestCase):
    def test_free_and_held(self):
        for sizes, pages, picture in all_worlds():
            self.assertTrue(same(free_cells(sizes, pages, picture), len(free_set(sizes, pages, picture))))
            self.assertTrue(same(held_cells(sizes, pages, picture), len(held_set(picture))))

    def test_told(self):
        self.assertEqual((free_cells(SIZES, (), ()), held_cells(SIZES, (), ())), (0, 0))
        self.assertEqual((free_cells(SIZES, (4,), ()), held_cells(SIZES, (4,), ())), (6, 0))
        self.assertEqual((free_cells(SIZES, (4,), ((0, 6, 24),)), held_cells(SIZES, (4,), ((0, 6, 24),))), (0, 6))
        self.assertEqual(free_cells(picture=[[0, 2, 24]], pages=[4, 10 ** 31], sizes=[1, 2, 6]), 10)
        self.assertEqual(held_cells(picture=[[0, 2, 24]], pages=[4, 10 ** 31], sizes=[1, 2, 6]), 2)


class Units(unittest.TestCase):
    def test_free_units(self):
        for sizes, pages, picture in all_worlds(20):
            for level in range(len(sizes)):
                told = tuple(free_row(sizes, pages, picture, level))
                self.assertTrue(same(free_units(sizes, pages, picture, level), told))

    def test_each_unit(self):
        for sizes, pages, picture in some_worlds(13):
            free = free_set(sizes, pages, picture)
            for level in range(len(sizes)):
                for place in unit_row(sizes, pages, level):
                    told = cells(place, sizes[level]) <= free
                    self.assertIs(is_free(sizes, pages, picture, level, place), told)

    def test_empty_and_full_pages(self):
        self.assertEqual(free_units(SIZES, (), (), 0), ())
        self.assertEqual(free_units(SIZES, (4,), (), 0), (24, 25, 26, 27, 28, 29))
        self.assertEqual(free_units(SIZES, (4, 7), (), 2), (24, 42))
        for picture in (((0, 6, 24),), ((0, 2, 28), (1, 2, 24), (2, 1, 27), (3, 1, 26))):
            for level in range(3):
                self.assertEqual(free_units(SIZES, (4,), picture, level), ())
                self.assertIs(is_free(SIZES, (4,), picture, level, 24), False)
        self.assertIs(is_free(SIZES, (4,), (), 2, 24), True)
        self.assertEqual(free_units(level=1, picture=[[0, 1, 24]], pages=[4], sizes=[1, 2, 6]), (26, 28))
        self.assertIs(is_free(place=25, level=0, picture=[[0, 1, 24]], pages=[4], sizes=[1, 2, 6]), True)

    def test_no_level_and_no_unit(self):
        for level in NO_NUMBERS + (3, 4, 6, 10 ** 31):
            self.assertIs(caught(Refused, free_units, SIZES, PAGES, ((0, 6, 0),), level).value, level)
        for value in NO_UNITS:
            with self.subTest(value):
                for call in (is_free, blocks_in):
                    for picture in ((), ((0, 1, 0), (1, 2, 12))):
                        self.assertTrue(same(caught(NoUnit, call, SIZES, PAGES, picture, *value).value, value))


class Holes(unittest.TestCase):
    def test_counted_by_cells(self):
        for sizes, pages, picture in all_worlds():
            self.assertTrue(same(holes(sizes, pages, picture), tuple(hole_row(sizes, pages, picture))))

    def test_told(self):
        self.assertEqual(holes(SIZES, (), ()), ())
        self.assertEqual(holes(SIZES, (4, 7), ()), ((2, 24), (2, 42)))
        self.assertEqual(holes(SIZES, (4, 7), ((3, 6, 24),)), ((2, 42),))
        self.assertEqual(holes(SIZES, (4, 7), ((3, 6, 24), (4, 6, 42))), ())
        self.assertEqual(holes(SIZES, (4, 7), ((3, 1, 42), (4, 2, 28))), ((0, 43), (1, 24), (1, 26), (1, 44), (1, 46)))
        self.assertEqual(holes(picture=[[3, 1, 24]], pages=[4], sizes=[1, 2, 6]), ((0, 25), (1, 26), (1, 28)))
        self.assertEqual(holes((5,), (1, 3), ((0, 5, 5),)), ((0, 15),))

    def test_each_free_cell_is_in_one(self):
        for sizes, pages, picture in some_worlds(3):
            found = [cell for level, place in holes(sizes, pages, picture) for cell in cells(place, sizes[level])]
            self.assertEqual(sorted(found), sorted(free_set(sizes, pages, picture)))

    def test_a_unit_is_free_if_it_is_within_one(self):
        for sizes, pages, picture in some_worlds(41):
            found = holes(sizes, pages, picture)
            for level in range(len(sizes)):
                for place in unit_row(sizes, pages, level):
                    within = any(is_within(sizes, pages, (level, place), hole) for hole in found)
                    self.assertIs(is_free(sizes, pages, picture, level, place), within)


class BlocksIn(unittest.TestCase):
    def test_counted_by_cells(self):
        for sizes, pages, picture in some_worlds(13):
            by_place = sorted(picture, key=lambda block: block[2])
            for level in range(len(sizes)):
                for place in unit_row(sizes, pages, level):
                    told = tuple(handle for handle, size, start in by_place
                                 if cells(start, size) & cells(place, sizes[level]))
                    self.assertTrue(same(blocks_in(sizes, pages, picture, level, place), told))

    def test_units_greater_and_less_than_a_block(self):
        picture = ((0, 2, 16), (3, 1, 12), (5, 6, 0), (8, 1, 15))
        self.assertEqual(blocks_in(SIZES, PAGES, picture, 2, 12), (3, 8, 0))
        self.assertEqual(blocks_in(SIZES, PAGES, picture, 1, 14), (8,))
        self.assertEqual(blocks_in(SIZES, PAGES, picture, 0, 14), ())
        self.assertEqual(blocks_in(SIZES, PAGES, picture, 0, 17), (0,))
        self.assertEqual(blocks_in(SIZES, PAGES, picture, 1, 16), (0,))
        self.assertEqual(blocks_in(SIZES, PAGES, picture, 1, 2), (5,))
        self.assertEqual(blocks_in(SIZES, PAGES, picture, 0, 5), (5,))
        self.assertEqual(blocks_in(SIZES, PAGES, picture, 2, 0), (5,))
        self.assertEqual(blocks_in(SIZES, PAGES, picture, 2, 18), ())
        self.assertEqual(blocks_in(place=12, level=2, picture=[[9, 1, 13], [10, 1, 12]], pages=[2], sizes=[1, 2, 6]), (10, 9))


if __name__ == "__main__":
    unittest.main()
