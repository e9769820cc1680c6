"""Promises [20], [21] and [22]: where a block goes, rows of takings, ready pictures."""

import random
import unittest

from tests.values import ANY, NO_NUMBERS, NO_SEQUENCES, caught, same
from tests.worlds import SMALL, all_worlds, cells, digit_row, free_row, free_set, hole_row, loose_row, pictures_of
from tests.worlds import some_worlds
from whatmovesbuy.errors import NoRoom, Refused
from whatmovesbuy.sizes import minus
from whatmovesbuy.takes import all_taken, bar, is_ready, least_hole, place_for, taken
from whatmovesbuy.units import hole_counts

SIZES, PAGES = (1, 2, 6), (0, 1, 5)
PICTURE = ((0, 1, 0), (3, 2, 2), (4, 6, 6))
FULL = ((1, 6, 0), (5, 6, 6), (9, 6, 30))
NO_SIZES = NO_NUMBERS + (0, 3, 4, 5, 12, 64, 10 ** 31, (1,), [2], "2")
# sizes that are none of these, as 1 is one
ANY_BUT_1 = tuple(value for value in ANY if not same(value, 1))


def least_of(sizes, pages, picture, size):
    """The first hole that is great enough, None without one."""
    return min([hole for hole in hole_row(sizes, pages, picture) if sizes[hole[0]] >= size], default=None)


def can_serve(sizes, pages, picture, row):
    """Whether some store serves all these sizes without moves, wherever it puts them."""
    if not row:
        return True
    level, handle = sizes.index(row[0]), picture[-1][0] + 1 if picture else 0
    return any(can_serve(sizes, pages, picture + ((handle, row[0], place),), row[1:])
               for place in free_row(sizes, pages, picture, level))


def filling(chance, sizes, number):
    """Some sizes, in some order, that come to just so many cells."""
    row = []
    while number:
        row.append(chance.choice([size for size in sizes if size <= number]))
        number -= row[-1]
    return row


class LeastHole(unittest.TestCase):
    def test_counted_by_cells(self):
        for sizes, pages, picture in all_worlds():
            for size in sizes:
                told = least_of(sizes, pages, picture, size)
                self.assertTrue(same(least_hole(sizes, pages, picture, size), told))
                self.assertTrue(same(place_for(sizes, pages, picture, size), None if told is None else told[1]))

    def test_several_of_a_level(self):
        picture = ((0, 1, 3), (1, 1, 8), (2, 2, 30), (3, 2, 34))
        self.assertEqual(least_hole(SIZES, PAGES, picture, 1), (0, 2))
        self.assertEqual(least_hole(SIZES, PAGES, picture, 2), (1, 0))
        self.assertIsNone(least_hole(SIZES, PAGES, picture, 6))
        self.assertEqual(place_for(SIZES, PAGES, picture[1:], 1), 9)
        self.assertEqual(place_for(SIZES, PAGES, picture[1:], 2), 6)
        self.assertEqual(place_for(SIZES, PAGES, picture[1:], 6), 0)
        self.assertEqual(least_hole(size=6, picture=[[0, 1, 0]], pages=[0, 1, 5], sizes=[1, 2, 6]), (2, 6))
        self.assertEqual(place_for(size=2, picture=[[0, 1, 0]], pages=[0, 1, 5], sizes=[1, 2, 6]), 2)

    def test_a_greater_hole(self):
        self.assertEqual(least_hole(SIZES, PAGES, (), 1), (2, 0))
        self.assertEqual(least_hole(SIZES, PAGES, ((0, 6, 0),), 2), (2, 6))
        self.assertEqual(place_for(SIZES, (10 ** 31,), (), 1), 6 * 10 ** 31)
        # the least hole that is great enough goes ahead of one of lesser place
        self.assertEqual(least_hole(SIZES, PAGES, ((0, 2, 30),), 1), (1, 32))

    def test_no_hole(self):
        for size in SIZES:
            self.assertIsNone(least_hole(SIZES, PAGES, FULL, size))
            self.assertIsNone(place_for(SIZES, PAGES, FULL, size))
            self.assertIsNone(least_hole(SIZES, (), (), size))
        self.assertIsNone(place_for((1, 2), (0,), ((0, 1, 0), (1, 1, 1)), 1))

    def test_no_size(self):
        for call in (least_hole, place_for):
            for value in NO_SIZES:
                self.assertIs(caught(Refused, call, SIZES, PAGES, PICTURE, value).value, value)
                self.assertIs(caught(Refused, call, SIZES, PAGES, FULL, value).value, value)


class Taken(unittest.TestCase):
    def test_each_size(self):
        for sizes, pages, picture in some_worlds(3):
            handle = picture[-1][0] + 1 if picture else 0
            for size in sizes:
                hole = least_of(sizes, pages, picture, size)
                if hole is None:
                    self.assertEqual(caught(NoRoom, taken, sizes, pages, picture, size).size, size)
                    self.assertEqual(caught(NoRoom, taken, sizes, pages, picture, size, handle).size, size)
                else:
                    told = picture + ((handle, size, hole[1]),)
                    self.assertTrue(same(taken(sizes, pages, picture, size), told))
                    self.assertTrue(same(taken(sizes, pages, picture, size, None), told))
                    told = picture + ((handle + 7, size, hole[1]),)
                    self.assertTrue(same(taken(list(sizes), list(pages), list(picture), size, handle + 7), told))

    def test_handles(self):
        self.assertEqual(taken(SIZES, PAGES, (), 1), ((0, 1, 0),))
        self.assertEqual(taken(SIZES, PAGES, (), 1, 0), ((0, 1, 0),))
        self.assertEqual(taken(SIZES, PAGES, [], 1, 10 ** 31), ((10 ** 31, 1, 0),))
        self.assertEqual(taken(SIZES, PAGES, PICTURE, 2)[-1], (5, 2, 4))
        self.assertEqual(taken(SIZES, PAGES, PICTURE, 2, 5)[-1], (5, 2, 4))
        self.assertEqual(taken(SIZES, PAGES, ((10 ** 31, 1, 0),), 1)[-1], (10 ** 31 + 1, 1, 1))
        self.assertEqual(taken(handle=8, size=6, picture=[[1, 6, 0]], pages=[0, 5], sizes=[1, 2, 6]),
                         ((1, 6, 0), (8, 6, 30)))
        for value in NO_NUMBERS[1:] + (0, 1, 2, 3, 4, "5", [5], (5,)):
            self.assertIs(caught(Refused, taken, SIZES, PAGES, PICTURE, 2, value).value, value)
        for value in NO_NUMBERS[1:]:
            self.assertIs(caught(Refused, taken, SIZES, PAGES, (), 2, value).value, value)

    def test_which_of_two_faults_is_told(self):
        for value in NO_SIZES:
            for handle in (None, -1, 0, True, "0", 20):
                self.assertIs(caught(Refused, taken, SIZES, PAGES, FULL, value, handle).value, value)
        for handle in (0, 9, True, -1, "10"):
            self.assertIs(caught(Refused, taken, SIZES, PAGES, FULL, 2, handle).value, handle)
        for handle in (None, 10, 10 ** 31):
            self.assertEqual(caught(NoRoom, taken, SIZES, PAGES, FULL, 2, handle).size, 2)
        self.assertEqual(caught(NoRoom, taken, SIZES, (), (), 6).size, 6)


class AllTaken(unittest.TestCase):
    def check_row(self, sizes, pages, picture, row):
        """A row is as its takings one by one, up to the first that finds no hole."""
        behind = picture
        for size in row:
            if least_of(sizes, pages, behind, size) is None:
                self.assertEqual(caught(NoRoom, all_taken, sizes, pages, picture, row).size, size)
                return False
            behind = taken(sizes, pages, behind, size)
        self.assertTrue(same(all_taken(sizes, pages, picture, row), behind))
        return True

    def test_rows_by_chance(self):
        chance, served = random.Random(21), []
        for sizes, pages, picture in some_worlds(5):
            row = [chance.choice(sizes) for _ in range(chance.randrange(9))]
            served.append(self.check_row(sizes, pages, picture, row))
        self.assertGreater(served.count(True), 50)
        self.assertGreater(served.count(False), 50)

    def test_smooth_pictures_are_filled(self):
        chance = random.Random(22)
        for sizes, pages, picture in some_worlds(3):
            if loose_row(sizes, pages, picture):
                continue
            free = len(free_set(sizes, pages, picture))
            row = filling(chance, sizes, free)
            full = all_taken(sizes, pages, picture, row)
            self.assertEqual(free_set(sizes, pages, full), set())
            self.assertEqual([block[1] for block in full[len(picture):]], row)
            self.assertEqual(full[:len(picture)], picture)
            for size in sizes:
                self.assertEqual(caught(NoRoom, all_taken, sizes, pages, picture, row + [size]).size, size)
                self.assertEqual(caught(NoRoom, all_taken, sizes, pages, full, (size,)).size, size)

    def test_holes_go_as_minus_tells(self):
        for sizes, pages, picture in some_worlds(3):
            free = len(free_set(sizes, pages, picture))
            for level, size in enumerate(sizes):
                if not loose_row(sizes, pages, picture) and size <= free:
                    behind = all_taken(sizes, pages, picture, [size])
                    self.assertEqual(loose_row(sizes, pages, behind), [])
                    told = minus(sizes, digit_row(sizes, free), level)[0]
                    self.assertEqual(hole_counts(sizes, pages, behind), told)

    def test_told(self):
        self.assertTrue(same(all_taken(SIZES, PAGES, PICTURE, ()), PICTURE))
        self.assertTrue(same(all_taken(SIZES, (), (), []), ()))
        told = ((0, 1, 0), (1, 6, 6), (2, 2, 2), (3, 1, 1), (4, 1, 4), (5, 1, 5), (6, 2, 30))
        self.assertTrue(same(all_taken(SIZES, PAGES, (), (1, 6, 2, 1, 1, 1, 2)), told))
        self.assertEqual(all_taken(row=[2, 6], picture=[[7, 1, 0]], pages=[0, 5], sizes=[1, 2, 6]),
                         ((7, 1, 0), (8, 2, 2), (9, 6, 30)))
        self.assertEqual(caught(NoRoom, all_taken, SIZES, PAGES, PICTURE, (2, 6, 1, 6, 2)).size, 6)
        self.assertEqual(caught(NoRoom, all_taken, SIZES, PAGES, FULL, (2, 6, 1)).size, 2)

    def test_no_row(self):
        for value in NO_SEQUENCES:
            self.assertIs(caught(Refused, all_taken, SIZES, PAGES, PICTURE, value).value, value)
        for value in NO_SIZES + ANY_BUT_1:
            for row in ((value,), [1, 2, value, None], (6, 6, 6, 6, 6, value), [value, 0]):
                self.assertIs(caught(Refused, all_taken, SIZES, PAGES, PICTURE, row).value, value)
                self.assertIs(caught(Refused, all_taken, SIZES, PAGES, FULL, row).value, value)


class Ready(unittest.TestCase):
    def told_bar(self, sizes, pages, picture):
        """The bar, from the holes and digits as they are counted here."""
        found = [level for level, place in hole_row(sizes, pages, picture)]
        wanted = digit_row(sizes, len(free_set(sizes, pages, picture)))
        wrong = [level for level in range(len(sizes)) if found.count(level) != wanted[level]]
        if not wrong:
            return None
        return tuple(size for level, size in list(enumerate(sizes))[::-1] if level >= wrong[-1]
                     for _ in range(wanted[level]))

    def test_counted_by_cells(self):
        for sizes, pages, picture in all_worlds():
            told = self.told_bar(sizes, pages, picture)
            self.assertTrue(same(bar(sizes, pages, picture), told))
            self.assertIs(is_ready(sizes, pages, picture), told is None)
            if not loose_row(sizes, pages, picture):
                self.assertIsNone(told)

    def test_no_store_serves_it(self):
        barred = 0
        for sizes, pages in SMALL:
            for picture in pictures_of(sizes, pages)[::7]:
                row = bar(sizes, pages, picture)
                if row is not None:
                    barred += 1
                    self.assertLessEqual(sum(row), len(free_set(sizes, pages, picture)))
                    self.assertFalse(can_serve(sizes, pages, picture, row))
                    self.assertTrue(can_serve(sizes, pages, picture, row[:-1]))
        self.assertGreater(barred, 50)

    def test_ready_ones_serve_all(self):
        chance, loose = random.Random(23), 0
        for sizes, pages, picture in some_worlds(2):
            if not is_ready(sizes, pages, picture):
                continue
            loose += bool(loose_row(sizes, pages, picture))
            row = filling(chance, sizes, len(free_set(sizes, pages, picture)))
            behind = picture
            for size in row:
                behind = all_taken(sizes, pages, behind, (size,))
                self.assertIs(is_ready(sizes, pages, behind), True)
            self.assertEqual(behind, all_taken(sizes, pages, picture, row))
        # also such as are not smooth
        self.assertGreater(loose, 10)

    def test_told(self):
        self.assertIs(is_ready((1, 2), (), ()), True)
        self.assertIsNone(bar((1, 2), (), ()))
        self.assertIsNone(bar(SIZES, PAGES, FULL))
        # loose at 1, but with as many holes as the digits tell
        self.assertIs(is_ready(SIZES, PAGES, ((0, 2, 0), (1, 2, 2), (2, 2, 6), (3, 2, 8), (4, 6, 30))), True)
        self.assertEqual(bar(SIZES, PAGES, ((0, 2, 0), (1, 2, 6), (4, 6, 30))), (6,))
        self.assertEqual(bar(SIZES, PAGES, ((0, 1, 0), (1, 1, 2))), (6, 6, 2, 2))
        self.assertEqual(bar(picture=[[0, 1, 0], [1, 1, 2], [2, 2, 4], [3, 6, 6]], pages=[0, 1], sizes=[1, 2, 6]), (2,))
        self.assertIs(is_ready(picture=[[0, 1, 0], [1, 1, 2]], pages=[0], sizes=[1, 2, 6]), False)
        told = (16, 8, 4, 2)
        self.assertEqual(bar((1, 2, 4, 8, 16), (0, 1), ((0, 1, 16), (1, 1, 18))), told)


if __name__ == "__main__":
    unittest.main()
