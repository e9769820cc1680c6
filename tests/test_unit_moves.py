"""Promise [19]: whole units that are brought to another place."""

import unittest

from tests.test_units_of_pages import NO_UNITS
from tests.values import caught, same
from tests.worlds import cells, held_set, some_worlds, unit_row
from whatmovesbuy.errors import NoUnit, Refused
from whatmovesbuy.moves import cost, moved, unit_moves
from whatmovesbuy.pictures import is_free

SIZES, PAGES = (1, 2, 6), (0, 2, 3)


class UnitMoves(unittest.TestCase):
    def check_unit(self, sizes, pages, picture, level, place, to):
        """One call, as the document tells it; returns whether moves were told."""
        size = sizes[level]
        ours = [block for block in picture if cells(block[2], block[1]) & cells(place, size)]
        if any(block[1] > size for block in ours):
            self.assertEqual(caught(Refused, unit_moves, sizes, pages, picture, level, place, to).value, place)
            return False
        if held_set(picture) & cells(to, size):
            self.assertEqual(caught(Refused, unit_moves, sizes, pages, picture, level, place, to).value, to)
            return False
        told = tuple((block[0], block[2] - place + to) for block in sorted(ours, key=lambda block: block[2]))
        moves = unit_moves(sizes, pages, picture, level, place, to)
        self.assertTrue(same(moves, told))
        self.assertEqual(cost(sizes, pages, picture, moves), len(held_set(picture) & cells(place, size)))
        behind = moved(sizes, pages, picture, moves)
        self.assertTrue(is_free(sizes, pages, behind, level, place))
        stand = {handle: start - to for handle, many, start in behind if cells(start, many) & cells(to, size)}
        self.assertEqual(stand, {handle: start - place for handle, many, start in ours})
        self.assertEqual([block for block in behind if block[0] not in stand],
                         [block for block in picture if block[0] not in stand])
        return True

    def test_each_two_units(self):
        served = 0
        for sizes, pages, picture in some_worlds(61):
            for level in range(len(sizes)):
                row = unit_row(sizes, pages, level)
                for place in row[:10]:
                    for to in row[-12:] + row[:3]:
                        served += self.check_unit(sizes, pages, picture, level, place, to)
        self.assertGreater(served, 500)

    def test_told(self):
        picture = ((0, 2, 16), (3, 1, 12), (5, 6, 0), (8, 1, 15))
        self.assertTrue(same(unit_moves(SIZES, PAGES, picture, 2, 12, 18), ((3, 18), (8, 21), (0, 22))))
        self.assertTrue(same(unit_moves(SIZES, PAGES, picture, 2, 0, 18), ((5, 18),)))
        self.assertTrue(same(unit_moves(SIZES, PAGES, picture, 1, 16, 20), ((0, 20),)))
        self.assertTrue(same(unit_moves(SIZES, PAGES, picture, 1, 14, 22), ((8, 23),)))
        self.assertTrue(same(unit_moves(SIZES, PAGES, picture, 0, 15, 14), ((8, 14),)))
        lists = [list(block) for block in picture]
        self.assertEqual(unit_moves(to=18, place=12, level=1, picture=lists, pages=[0, 2, 3], sizes=[1, 2, 6]), ((3, 18),))
        great = ((7, 1, 10 ** 31 * 6 + 3),)
        self.assertEqual(unit_moves(SIZES, (1, 10 ** 31), great, 2, 10 ** 31 * 6, 6), ((7, 9),))

    def test_empty_units(self):
        picture = ((3, 1, 12), (5, 6, 0))
        self.assertTrue(same(unit_moves(SIZES, PAGES, picture, 2, 18, 18), ()))
        self.assertTrue(same(unit_moves(SIZES, PAGES, picture, 1, 14, 16), ()))
        self.assertTrue(same(unit_moves(SIZES, PAGES, picture, 0, 13, 13), ()))
        self.assertEqual(caught(Refused, unit_moves, SIZES, PAGES, picture, 0, 13, 12).value, 12)
        self.assertEqual(caught(Refused, unit_moves, SIZES, PAGES, picture, 1, 14, 12).value, 12)

    def test_within_a_greater_block(self):
        picture = ((3, 2, 12), (5, 6, 0))
        for level, place, to in ((1, 2, 14), (0, 3, 14), (0, 13, 14), (1, 0, 0), (0, 12, 13), (1, 4, 12)):
            self.assertEqual(caught(Refused, unit_moves, SIZES, PAGES, picture, level, place, to).value, place)

    def test_held_cells_at_the_place_to_go_to(self):
        picture = ((3, 2, 12), (5, 6, 0), (6, 1, 19))
        for level, place, to in ((1, 12, 12), (2, 0, 0), (2, 0, 12), (2, 0, 18), (2, 12, 12), (2, 18, 12), (0, 19, 19),
                                 (1, 18, 12), (1, 12, 18), (0, 19, 12), (0, 19, 5), (1, 14, 2)):
            self.assertEqual(caught(Refused, unit_moves, SIZES, PAGES, picture, level, place, to).value, to)

    def test_no_units(self):
        picture = ((3, 2, 12), (5, 6, 0))
        for level, value in NO_UNITS:
            with self.subTest((level, value)):
                told = caught(NoUnit, unit_moves, SIZES, PAGES, picture, level, value, 12)
                self.assertTrue(same(told.value, (level, value)))
                told = caught(NoUnit, unit_moves, SIZES, PAGES, picture, level, value, None)
                self.assertTrue(same(told.value, (level, value)))
                if not any(same(level, one) for one in (0, 1, 2)):
                    continue
                # the other one is told if the place is right, also of a block that has it within
                for place in (0, 12):
                    told = caught(NoUnit, unit_moves, SIZES, PAGES, picture, level, place, value)
                    self.assertTrue(same(told.value, (level, value)))


if __name__ == "__main__":
    unittest.main()
